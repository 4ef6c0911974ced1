"""Point 12, and point 1 for it: the interface under notfound/layers.py."""

import copy
import itertools
import random
import unittest

from notfound.deciding import decided
from notfound.errors import NotfoundError, NotLayered
from notfound.layers import layers, word_ring
from tests.programs import GAME, all_programs, moves


def rule(text):
    """The rule "a: b c, not d" of facts without things."""
    head, _, body = text.partition(":")
    yeses, _, nots = body.partition(" not ")
    return (head,), tuple([(word,) for word in yeses.split()]), tuple([(word,) for word in nots.split()])


def rules_of(*texts):
    return [rule(text) for text in texts]


def some_rules(number, words):
    """Rules of few words, the same ones for the same number."""
    chance = random.Random(number)
    rules = []
    for _ in range(chance.randrange(1, 6)):
        yeses = tuple([(chance.choice(words),) for _ in range(chance.randrange(3))])
        nots = tuple([(chance.choice(words),) for _ in range(chance.choice([0, 0, 1, 1, 2]))])
        rules.append(((chance.choice(words),), yeses, nots))
    return rules


def words_of(rules):
    return sorted({pattern[0] for head, yeses, nots in rules for pattern in [head, *yeses, *nots]})


def numbers_hold(rules, numbers):
    """Point 12, word by word."""
    for head, yeses, nots in rules:
        if any(numbers[head[0]] < numbers[pattern[0]] for pattern in yeses):
            return False
        if any(numbers[head[0]] <= numbers[pattern[0]] for pattern in nots):
            return False
    return True


def least_layers(rules):
    """The layers by trying all numbers of all words; None where no numbers hold."""
    words = words_of(rules)
    good = []
    for some in itertools.product(range(max(len(words), 1)), repeat=len(words)):
        if numbers_hold(rules, dict(zip(words, some))):
            good.append(some)
    if not good:
        return None
    least = [min(some[at] for some in good) for at in range(len(words))]
    many = max(least, default=-1) + 1
    return [[word for word, number in zip(words, least) if number == layer] for layer in range(many)]


class InterfaceTest(unittest.TestCase):

    def test_both_are_defined_in_their_file(self):
        for function in [layers, word_ring]:
            self.assertEqual(function.__module__, "notfound.layers")


class WordsTest(unittest.TestCase):

    def layered(self, rules, answer):
        before = copy.deepcopy(rules)
        told = layers(rules)
        self.assertEqual(word_ring(rules), [])
        self.assertEqual(rules, before)
        self.assertEqual(told, answer)
        self.assertEqual([row.__class__ for row in (told, *told)], [list] * (1 + len(told)))

    def ring(self, rules):
        """The ring of words that is told, once it is as the interface says."""
        before = copy.deepcopy(rules)
        with self.assertRaises(ValueError) as caught:
            layers(rules)
        self.assertIs(caught.exception.__class__, NotLayered)
        self.assertIsInstance(caught.exception, NotfoundError)
        steps = word_ring(rules)
        self.assertEqual(rules, before)
        self.assertIs(steps.__class__, list)
        self.assertGreater(len(steps), 0)
        for step, ahead in zip(steps, [steps[-1], *steps]):
            self.assertIs(step.__class__, tuple)
            one, place, by, other = step
            self.assertEqual(one, ahead[3])
            self.assertGreaterEqual(place, 0)
            head, yeses, nots = rules[place]
            self.assertEqual(one, head[0])
            self.assertIn(by, ["yes", "not"])
            self.assertIn(other, [pattern[0] for pattern in (yeses if by == "yes" else nots)])
        self.assertIn("not", [by for _, _, by, _ in steps])
        return steps

    def turned(self, steps, answer):
        """The steps are the answer's, whichever is the first."""
        turns = [answer[at:] + answer[:at] for at in range(len(answer))]
        self.assertIn(steps, turns)

    def test_no_rules(self):
        self.layered([], [])

    def test_a_head_alone(self):
        self.layered(rules_of("a:"), [["a"]])

    def test_words_in_yeses_alone_and_in_nots_alone(self):
        self.layered(rules_of("c: b not a"), [["a", "b"], ["c"]])
        self.layered(rules_of("a: b c"), [["a", "b", "c"]])
        self.layered(rules_of("a: not b c"), [["b", "c"], ["a"]])

    def test_words_of_each_layer_in_order(self):
        self.layered(rules_of("z: not m", "aa: not ab", "a: not b", "b: aaa", "b: zz"), [
            ["aaa", "ab", "b", "m", "zz"], ["a", "aa", "z"],
        ])

    def test_a_word_stands_once(self):
        rules = [(("p", "a"), (("q", "a"), ("q", "b")), ()), (("p",), (("p", "a"),), (("r", "a"), ("r",)))]
        self.layered(rules, [["q", "r"], ["p"]])

    def test_words_count_and_not_things(self):
        rules = [(("p", "?x"), (("q", "?x", "r"),), (("s", "p"),)), (("q", "s", "p"), (), ())]
        self.layered(rules, [["q", "s"], ["p"]])

    def test_one_word_with_several_numbers_of_things_is_one(self):
        self.assertEqual(self.ring([(("p",), (), (("p", "a"),))]), [("p", 0, "not", "p")])

    def test_layers_go_up_by_nots_alone(self):
        chain = rules_of("e: d", "d: not c", "c: b", "b: not a")
        for rules in itertools.permutations(chain):
            self.layered(list(rules), [["a"], ["b", "c"], ["d", "e"]])

    def test_the_greatest_of_several_counts(self):
        rules = rules_of("d: a not c", "c: not b", "b: not a", "d: not a", "d: a")
        for some in itertools.permutations(rules):
            self.layered(list(some), [["a"], ["b"], ["c"], ["d"]])

    def test_as_many_layers_as_rules(self):
        words = "abcdefghijklmnopqrstu"
        rules = [((head,), (), ((word,),)) for word, head in zip(words, words[1:])]
        self.layered(rules, [[word] for word in words])
        self.layered(rules[::-1], [[word] for word in words])
        self.assertEqual(len(self.ring(rules[1:] + [(("b",), (("u",),), ())])), 20)

    def test_a_ring_of_yeses_alone(self):
        self.layered(rules_of("a: a"), [["a"]])
        self.layered(rules_of("a: b", "b: c", "c: a"), [["a", "b", "c"]])
        self.layered(rules_of("a: b", "b: c", "c: a", "b: not d", "e: not c"), [["d"], ["a", "b", "c"], ["e"]])

    def test_a_word_that_hangs_on_itself_by_a_not(self):
        self.assertEqual(self.ring(rules_of("a: not a")), [("a", 0, "not", "a")])
        self.assertEqual(self.ring(rules_of("b: a", "a: a", "a: c not c a")), [("a", 2, "not", "a")])
        self.assertEqual(self.ring([GAME]), [("win", 0, "not", "win")])

    def test_a_ring_of_two(self):
        self.turned(self.ring(rules_of("a: not b", "b: a")), [("a", 0, "not", "b"), ("b", 1, "yes", "a")])
        self.turned(self.ring(rules_of("a: not b", "b: not a")), [("a", 0, "not", "b"), ("b", 1, "not", "a")])

    def test_longer_rings(self):
        answer = [("a", 3, "yes", "b"), ("b", 1, "yes", "c"), ("c", 2, "not", "d"), ("d", 0, "yes", "a")]
        rules = rules_of("d: a e", "b: c", "c: e not d", "a: b", "e: f not g")
        self.turned(self.ring(rules), answer)

    def test_a_not_beside_a_ring_of_yeses(self):
        self.layered(rules_of("a: b not c", "b: a not d", "c: not d"), [["d"], ["c"], ["a", "b"]])
        self.ring(rules_of("a: b not c", "b: a not d", "c: not d", "d: b"))

    def test_a_ring_behind_words_that_have_none(self):
        steps = self.ring(rules_of("z: not y", "y: not x", "x: not w", "w: v", "v: not w"))
        self.turned(steps, [("w", 3, "yes", "v"), ("v", 4, "not", "w")])

    def test_small_rules(self):
        for number in range(600):
            rules = some_rules(number, "abcd")
            with self.subTest(rules=rules):
                answer = least_layers(rules)
                if answer is None:
                    self.ring(rules)
                else:
                    self.layered(rules, answer)

    def test_layered_rules_leave_nothing_open(self):
        for name, (given, rules) in all_programs():
            with self.subTest(name=name):
                if word_ring(rules) == []:
                    layers(rules)
                    self.assertEqual(decided(given, rules).left, [])
                else:
                    self.ring(rules)

    def test_rules_without_layers_may_leave_nothing_open(self):
        self.ring([GAME])
        self.assertEqual(decided(moves("ab bc"), [GAME]).left, [])

    def test_lists_are_new(self):
        rules = rules_of("b: not a", "c: d")
        told = layers(rules)
        told[0].clear()
        told.append([])
        self.assertEqual(layers(rules), [["a", "c", "d"], ["b"]])
        word_ring(rules).append("more")
        self.assertEqual(word_ring(rules), [])
        rules = rules_of("a: not a")
        word_ring(rules).clear()
        self.assertEqual(word_ring(rules), [("a", 0, "not", "a")])


if __name__ == "__main__":
    unittest.main()
