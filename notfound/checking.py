"""What is refused of given facts and rules."""

from notfound.errors import BadFact, BadRule, LooseSlot, TooMany
from notfound.facts import is_slot, patterns_of, slots_of
from notfound.filling import filled_rules, things_of

LETTERS = "abcdefghijklmnopqrstuvwxyz"
FIGURES = "0123456789"
MOST_SIGNS = 8
MOST_THINGS_OF_FACT = 3
MOST_YESES_AND_NOTS = 6
MOST_SLOTS = 3
MOST_GIVEN = 60
MOST_RULES = 20
MOST_THINGS = 8
MOST_FILLED = 2000


def is_written_in(text, signs):
    """Whether a text is neither empty nor too long and has no other signs."""
    return 1 <= len(text) <= MOST_SIGNS and all(sign in signs for sign in text)


def is_word(text):
    """Whether a text is a word."""
    return is_written_in(text, LETTERS)


def is_thing(text):
    """Whether a text is a thing."""
    return is_written_in(text, LETTERS + FIGURES)


def is_thing_or_slot(text):
    """Whether a text may stand behind the word of a pattern."""
    if is_slot(text):
        return is_word(text[1:])
    return is_thing(text)


def is_pattern(row):
    """Whether a tuple of texts is a pattern."""
    if not 1 <= len(row) <= 1 + MOST_THINGS_OF_FACT:
        return False
    return is_word(row[0]) and all(is_thing_or_slot(text) for text in row[1:])


def is_fact(row):
    """Whether a tuple of texts is a fact: a pattern without slots."""
    return is_pattern(row) and not slots_of([row])


def check_fact(row):
    """Refuse a tuple of texts that is no fact."""
    if not is_fact(row):
        raise BadFact(f"not a fact: {row!r}")


def check_rule(rule):
    """Refuse the first of what is wrong in one rule."""
    head, yeses, nots = rule
    for pattern in patterns_of(rule):
        if not is_pattern(pattern):
            raise BadRule(f"not a pattern: {pattern!r}")
    if len(yeses) + len(nots) > MOST_YESES_AND_NOTS:
        raise BadRule(f"more than {MOST_YESES_AND_NOTS} yeses and nots")
    bound = slots_of(yeses)
    for slot in slots_of([head, *nots]):
        if slot not in bound:
            raise LooseSlot(f"stands in no yes: {slot}")
    # Only now are the slots of the yeses all slots of the rule.
    if len(bound) > MOST_SLOTS:
        raise TooMany(f"more than {MOST_SLOTS} slots in a rule")


def check(given, rules):
    """Refuse the first of what is wrong in given facts and rules."""
    if len(given) > MOST_GIVEN:
        raise TooMany(f"more than {MOST_GIVEN} given facts")
    if len(rules) > MOST_RULES:
        raise TooMany(f"more than {MOST_RULES} rules")
    for row in given:
        check_fact(row)
    for rule in rules:
        check_rule(rule)
    if len(things_of(given, rules)) > MOST_THINGS:
        raise TooMany(f"more than {MOST_THINGS} things")
    # What passed so far fills few enough rules to count them by filling them.
    if len(filled_rules(given, rules)) > MOST_FILLED:
        raise TooMany(f"more than {MOST_FILLED} filled rules")
