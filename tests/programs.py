"""Small programs for the tests, and what the document says of facts, worked out another way."""

import itertools
import random

from notfound.filling import filled_rules

GAME = (("win", "?x"), (("move", "?x", "?y"),), (("win", "?y"),))


def moves(text):
    """The given facts of a game: "ab bc" has a move from a to b and one from b to c."""
    return [("move", one, other) for one, other in text.split()]


PROGRAMS = {
    "nothing": ([], []),
    "facts alone": ([("rain",), ("edge", "a", "b")], []),
    "a fact twice": ([("rain",), ("sun",), ("rain",)], [(("wet",), (("rain",),), ())]),
    "no facts": ([], [(("p",), (("q",),), ())]),
    "a rule without yeses and nots": ([], [(("p",), (), ())]),
    "a chain": (
        [("a",)],
        [(("d",), (("c",),), ()), (("c",), (("b",),), ()), (("b",), (("a",),), ())],
    ),
    "a chain of nots": (
        [],
        [(("a",), (), (("b",),)), (("b",), (), (("c",),)), (("c",), (), (("d",),))],
    ),
    "a way": (
        [("edge", "a", "b"), ("edge", "b", "c"), ("edge", "d", "a")],
        [
            (("way", "?x", "?y"), (("edge", "?x", "?y"),), ()),
            (("way", "?x", "?z"), (("way", "?x", "?y"), ("edge", "?y", "?z")), ()),
            (("apart", "?x", "?y"), (("edge", "?x", "?z"), ("edge", "?y", "?z")), (("way", "?x", "?y"),)),
        ],
    ),
    "a ring of yeses": (
        [("rain",)],
        [
            (("p",), (("q",),), ()),
            (("q",), (("p",),), ()),
            (("r",), (("rain",),), (("p",),)),
        ],
    ),
    "a ring through two nots": ([], [(("p",), (), (("q",),)), (("q",), (), (("p",),))]),
    "a not of itself": ([], [(("p",), (), (("p",),))]),
    "a yes and a not of itself": ([], [(("p",), (("p",),), (("p",),))]),
    "a ring that a given fact ends": (
        [("q",)],
        [(("p",), (), (("q",),)), (("q",), (), (("p",),))],
    ),
    "a way to a ring": (
        [("go",)],
        [
            (("a",), (("go",), ("b",)), ()),
            (("b",), (), (("c",), ("z",))),
            (("c",), (("d",),), ()),
            (("d",), (), (("c",),)),
            (("e",), (("a",), ("e",)), ()),
        ],
    ),
    "open by way of yeses that hang on each other": (
        [],
        [
            (("p",), (("q",),), ()),
            (("q",), (("p",),), ()),
            (("q",), (), (("n",),)),
            (("n",), (), (("p",),)),
        ],
    ),
    "a fact of several rules": (
        [("a",)],
        [
            (("p",), (("b",),), ()),
            (("p",), (("a",),), (("p",),)),
            (("p",), (("a",),), (("b",),)),
        ],
    ),
    "a game without a way back": (moves("ab bc cd ac"), [GAME]),
    "a game around": (moves("ab ba bc cd"), [GAME]),
    "a game of three around": (moves("ab bc ca da"), [GAME]),
    "a game with a move to itself": (moves("aa bc ab"), [GAME]),
    "a game and who loses": (
        moves("ab ba bc ca de"),
        [GAME, (("lose", "?y"), (("move", "?x", "?y"),), (("win", "?y"),))],
    ),
}


def some_pattern(chance, slots):
    """A pattern with few words and things, so that patterns often meet."""
    word = chance.choice(["p", "q", "r"])
    many = {"p": 0, "q": 1, "r": 1}[word]
    return (word, *[chance.choice([*slots, "a", "b"]) for _ in range(many)])


def some_program(number):
    """A small good program, the same one for the same number."""
    chance = random.Random(number)
    given = [some_pattern(chance, []) for _ in range(chance.randrange(3))]
    given += [("dom", thing) for thing in "ab"[:chance.randrange(3)]]
    rules = []
    for _ in range(chance.randrange(1, 7)):
        slots = ["?x", "?y"][:chance.randrange(3)]
        yeses = [("dom", slot) for slot in slots]
        yeses += [some_pattern(chance, slots) for _ in range(chance.randrange(3))]
        nots = [some_pattern(chance, slots) for _ in range(chance.randrange(3))]
        rules.append((some_pattern(chance, slots), tuple(yeses), tuple(nots)))
    return given, rules


def all_programs():
    """Pairs of a name and a program."""
    yield from PROGRAMS.items()
    for number in range(400):
        yield f"program {number}", some_program(number)


def facts_in(filled):
    """The set of the facts in filled rules."""
    return {fact for _, head, yeses, nots in filled for fact in [head, *yeses, *nots]}


def follows(given, filled, assumed):
    """The facts that follow where a not holds just where its fact is not assumed."""
    found = set(given)
    for _ in range(len(filled) + 1):
        for _, head, yeses, nots in filled:
            if set(yeses) <= found and not set(nots) & assumed:
                found.add(head)
    return found


def worked_out(given, rules):
    """A dict from all facts that stand somewhere to "yes", "no" or "open".

    Unlike the program, this goes from what is certain to what may be, and back,
    till both stay as they are.
    """
    filled = filled_rules(given, rules)
    certain = set()
    while True:
        maybe = follows(given, filled, certain)
        more = follows(given, filled, maybe)
        if more == certain:
            break
        certain = more
    answers = {fact: "no" for fact in facts_in(filled) | set(given)}
    answers.update({fact: "open" for fact in maybe})
    answers.update({fact: "yes" for fact in certain})
    return answers


def subsets(rows):
    """All sets of the members of a list."""
    for many in range(len(rows) + 1):
        for some in itertools.combinations(rows, many):
            yield set(some)
