"""Why a fact is open: a way to a ring that goes through a not."""

from notfound.deciding import enterable, facts_of
from notfound.errors import NotOpen


def facts_said(verdict, word):
    """A list of the facts in the verdict's filled rules of which that word is said."""
    return [fact for fact in facts_of(verdict.filled) if verdict.said(fact) == word]


def places_of_open(verdict):
    """A dict from each open fact to the place of a filled rule that may enter it."""
    told = facts_said(verdict, "yes")
    refuted = facts_said(verdict, "no")
    return {fact: place for fact, place in enterable(verdict.filled, told, refuted)}


def step_from(verdict, fact, place):
    """A step from an open fact by the filled rule at the place that may enter it."""
    _, _, yeses, nots = verdict.filled[place]
    steps = [(fact, place, "yes", other) for other in yeses]
    steps.extend([(fact, place, "not", other) for other in nots])
    # One other at least is open, or the fact would have been told. An open yes may be
    # entered ahead of the fact, so steps by yeses alone come to an end and make no ring.
    return [step for step in steps if verdict.said(step[3]) == "open"][0]


def ring(verdict, fact):
    """A pair of new lists of steps: from an open fact to a ring, and around the ring."""
    if verdict.said(fact) != "open":
        raise NotOpen(f"not open: {fact!r}")
    places = places_of_open(verdict)
    steps = []
    starts = {}
    one = fact
    while one not in starts:
        starts[one] = len(steps)
        steps.append(step_from(verdict, one, places[one]))
        one = steps[-1][3]
    return steps[:starts[one]], steps[starts[one]:]
