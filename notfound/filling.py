"""The things of given facts and rules, and the rules filled with them."""

from notfound.facts import is_slot, patterns_of, put_in, slots_of


def things_of(given, rules):
    """A new list of the things in given facts and rules, each once, in order."""
    rows = list(given)
    for rule in rules:
        rows.extend(patterns_of(rule))
    return sorted({text for row in rows for text in row[1:] if not is_slot(text)})


def fillings(slots, things):
    """A list of dicts from slots to things, one for each way, the first slot slowest."""
    ways = [{}]
    for slot in slots:
        ways = [{**way, slot: thing} for way in ways for thing in things]
    return ways


def put_in_all(patterns, filling):
    """A tuple of what the patterns become by a dict from slots to things."""
    return tuple([put_in(pattern, filling) for pattern in patterns])


def filled_rules(given, rules):
    """A new list of filled rules: tuples (place, head, yeses, nots)."""
    things = things_of(given, rules)
    filled = []
    for place, (head, yeses, nots) in enumerate(rules):
        for filling in fillings(slots_of(yeses), things):
            facts = put_in_all(yeses, filling), put_in_all(nots, filling)
            filled.append((place, put_in(head, filling), *facts))
    return filled
