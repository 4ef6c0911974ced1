"""Facts, patterns and rules, and when a pattern fits a fact.

A fact is a tuple of a word and of things, such as ("edge", "a", "b"). A pattern
is like a fact, but may have slots in the place of things: ("edge", "?x", "b").
A rule is a tuple of its head, a pattern, and of its yeses and its nots, two
tuples of patterns.
"""


def is_slot(text):
    """Whether a text of a pattern is a slot."""
    return text.startswith("?")


def patterns_of(rule):
    """A new list of a rule's patterns: its head, its yeses, its nots."""
    head, yeses, nots = rule
    return [head, *yeses, *nots]


def slots_of(patterns):
    """A new list of the slots in the patterns, each once, as they come."""
    slots = []
    for pattern in patterns:
        for text in pattern:
            if is_slot(text) and text not in slots:
                slots.append(text)
    return slots


def put_in(pattern, filling):
    """The tuple that a pattern becomes by a dict from slots to things."""
    return tuple([filling.get(text, text) for text in pattern])


def fitted(pattern, fact):
    """A new dict from the pattern's slots to things by which it is the fact, or None."""
    filling = {text: thing for text, thing in zip(pattern, fact) if is_slot(text)}
    # Only the way back tells whether a slot that stands twice met one thing,
    # and whether the words, the other things and the lengths are the same.
    if put_in(pattern, filling) == fact:
        return filling
    return None
