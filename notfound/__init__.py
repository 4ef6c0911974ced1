"""Notfound: what follows from rules with and-not."""
