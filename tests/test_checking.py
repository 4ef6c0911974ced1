"""Points 2, 3, 4 and 8, and point 1 for them: the interface under notfound/checking.py."""

import copy
import unittest

from notfound import checking
from notfound.checking import check
from notfound.errors import BadFact, BadRule, LooseSlot, NotfoundError, TooMany
from notfound.filling import filled_rules
from tests.programs import all_programs

THINGS = ["a", "b", "c", "d", "e", "f", "g", "h"]
EIGHT = [("t", thing) for thing in THINGS]
NOT_LETTERS = ["A", "Z", "_", "-", " ", "\n", ".", "?", "`", "{", "'", "\u00e9", "\u00df", "\u0430", "\uff41", "\u00aa"]
NOT_FIGURES = ["\u0661", "\u00b2", "\uff11", "/", ":", "\u00bd"]

# Texts that are no word, and that are no thing.
NOT_WORDS = ["", "abcdefghi", "a1", "1", "0a", *NOT_LETTERS, *NOT_FIGURES]
NOT_WORDS += ["a" + sign for sign in NOT_LETTERS + NOT_FIGURES]
NOT_WORDS += [sign + "a" for sign in NOT_LETTERS + NOT_FIGURES]
NOT_THINGS = ["", "abcdefghi", "123456789", "abcd12345", *NOT_LETTERS, *NOT_FIGURES]
NOT_THINGS += ["a" + sign for sign in NOT_LETTERS + NOT_FIGURES]
NOT_THINGS += [sign + "1" for sign in NOT_LETTERS + NOT_FIGURES]

BAD_SHAPES = [(), ("",), ("", "a"), ("p", "a", "b", "c", "d"), ("p", "a", "b", "c", "d", "e")]
BAD_FACTS = BAD_SHAPES + [(word,) for word in NOT_WORDS] + [(word, "a") for word in NOT_WORDS]
BAD_FACTS += [("p", thing) for thing in NOT_THINGS]
BAD_FACTS += [("p", "a", "b", thing) for thing in NOT_THINGS]
BAD_FACTS += [("p", "?x"), ("p", "a", "?x"), ("p", "a", "b", "?x"), ("?x",), ("?x", "a")]

BAD_SLOTS = ["?" + word for word in NOT_WORDS] + ["??x", "?x?", "x?", "?1", "?x1", " ?x", "?"]
BAD_PATTERNS = BAD_SHAPES + [(word,) for word in NOT_WORDS] + [(word, "?x") for word in NOT_WORDS]
BAD_PATTERNS += [("p", thing) for thing in NOT_THINGS]
BAD_PATTERNS += [("p", "?x", "a", thing) for thing in NOT_THINGS]
BAD_PATTERNS += [("p", slot) for slot in BAD_SLOTS]
BAD_PATTERNS += [("p", "a", "?x", slot) for slot in BAD_SLOTS]
BAD_PATTERNS += [("?x",), ("?x", "a"), ("p", "?x", "?x", "?x", "?x")]

GOOD_RULE = (("p", "?x"), (("q", "?x"),), (("r", "?x"),))
BAD_RULE = (("p", "?x"), (("q", "?x"),), (("r", "X"),))
LOOSE_RULE = (("p", "?y"), (("q", "?x"),), ())
WIDE_RULE = (("p", "?a"), (("q", "?a", "?b"), ("q", "?c", "?d")), ())
LONG_RULE = (("p",), (("q",),) * 7, ())


def rule_of(slots):
    """A good rule with so many slots."""
    return (("p",), (("q", *["?x", "?y", "?z"][:slots]),), ())


def rules_of(threes, twos, ones, noughts):
    """Good rules, so many of each number of slots."""
    return [rule_of(3)] * threes + [rule_of(2)] * twos + [rule_of(1)] * ones + [rule_of(0)] * noughts


class InterfaceTest(unittest.TestCase):

    def test_check_is_defined_in_its_file(self):
        self.assertEqual(check.__module__, "notfound.checking")
        self.assertIs(checking.check, check)


class CheckTest(unittest.TestCase):

    def good(self, given, rules):
        before = copy.deepcopy((given, rules))
        self.assertIsNone(check(given, rules))
        self.assertEqual((given, rules), before)

    def refused(self, given, rules, kind):
        before = copy.deepcopy((given, rules))
        with self.assertRaises(ValueError) as caught:
            check(given, rules)
        self.assertIs(caught.exception.__class__, kind)
        self.assertIsInstance(caught.exception, NotfoundError)
        self.assertEqual((given, rules), before)


class GoodTest(CheckTest):

    def test_nothing(self):
        self.good([], [])

    def test_small_programs(self):
        for name, (given, rules) in all_programs():
            with self.subTest(name=name):
                self.good(given, rules)

    def test_each_letter_and_figure(self):
        for letter in "abcdefghijklmnopqrstuvwxyz":
            with self.subTest(letter=letter):
                self.good([(letter, letter)], [])
                self.good([], [((letter,), ((letter, "?" + letter, letter),), ())])
        for figure in "0123456789":
            with self.subTest(figure=figure):
                self.good([("p", figure, "a" + figure, figure + "a")], [])
                self.good([], [(("p", figure), (("q", figure),), (("r", figure),))])

    def test_words_things_and_slots_of_one_and_of_eight_signs(self):
        self.good([("a",), ("abcdefgh",), ("p", "1", "12345678", "abcdefgh")], [])
        long = ("abcdefgh", "?abcdefgh", "abcd1234")
        self.good([], [(long, (long,), (long,))])

    def test_none_to_three_things(self):
        for many in range(4):
            with self.subTest(many=many):
                self.good([("p", *THINGS[:many])], [])
                pattern = ("p", *["?x", "a", "?x"][:many])
                self.good([], [(pattern, (pattern,), (pattern,))])

    def test_one_word_with_several_numbers_of_things(self):
        self.good([("p",), ("p", "a"), ("p", "a", "b")], [(("p", "p"), (("p",),), (("p", "a"),))])


class CountsTest(CheckTest):

    def test_given_facts(self):
        self.good([("p",)] * 60, [])
        self.refused([("p",)] * 61, [], TooMany)
        different = [("p", one, other) for one in THINGS for other in THINGS]
        self.good(different[:60], [])
        self.refused(different[:61], [], TooMany)

    def test_a_given_fact_that_stands_twice_counts_twice(self):
        self.refused([("p",), ("q",)] * 30 + [("p",)], [], TooMany)

    def test_rules(self):
        self.good([], [GOOD_RULE] * 20)
        self.refused([], [GOOD_RULE] * 21, TooMany)
        different = [(("p", "a"), (("q",),) * one, (("r",),) * other) for one in range(4) for other in range(4)]
        different += [(("s",), row[1], row[2]) for row in different[:5]]
        self.good([], different[:20])
        self.refused([], different[:21], TooMany)

    def test_both_at_once(self):
        self.good([("p",)] * 60, [GOOD_RULE] * 20)

    def test_yeses_and_nots(self):
        for yeses in range(9):
            for nots in range(9):
                rule = (("p",), (("q",),) * yeses, (("r",),) * nots)
                with self.subTest(yeses=yeses, nots=nots):
                    if yeses + nots <= 6:
                        self.good([], [rule])
                        self.good([], [GOOD_RULE, rule, GOOD_RULE])
                    else:
                        self.refused([], [rule], BadRule)
                        self.refused([], [GOOD_RULE, rule, GOOD_RULE], BadRule)

    def test_slots(self):
        three = (("p", "?a", "?b", "?c"), (("q", "?a", "?b"), ("q", "?b", "?c")), (("q", "?c", "?a"),))
        self.good([], [three])
        self.good([("q", "a", "b")], [GOOD_RULE, three])
        self.refused([], [WIDE_RULE], TooMany)
        self.refused([("q", "a", "b")], [GOOD_RULE, WIDE_RULE], TooMany)
        self.refused([], [(("p",), (("q", "?a", "?b", "?c"), ("r", "?d", "?e", "?f")), ())], TooMany)

    def test_slots_are_counted_in_each_rule_alone(self):
        rules = [(("p",), (("q", "?a" + sign, "?b" + sign, "?c" + sign),), ()) for sign in "stuv"]
        self.good([], rules)

    def test_a_slot_that_stands_often_is_one(self):
        pattern = ("q", "?a", "?b", "?c")
        self.good([], [(pattern, (pattern, pattern, ("r", "?c", "?a", "?a")), (pattern,))])

    def test_things(self):
        self.good(EIGHT, [])
        self.refused(EIGHT + [("t", "i")], [], TooMany)
        self.refused([("t", "1", "2", "3"), ("t", "4", "5", "6"), ("t", "7", "8", "9")], [], TooMany)

    def test_things_of_rules(self):
        for place in range(3):
            rows = [(("p",),), (("q",),), (("r",),)]
            with self.subTest(place=place):
                rows[place] = (("t", "h"),)
                self.good(EIGHT, [(rows[0][0], rows[1], rows[2])])
                rows[place] = (("t", "i"),)
                self.refused(EIGHT, [(rows[0][0], rows[1], rows[2])], TooMany)

    def test_things_of_rules_alone(self):
        rules = [(("p", thing), (), ()) for thing in THINGS]
        self.good([], rules)
        self.refused([], rules + [(("p", "i"), (), ())], TooMany)

    def test_words_and_slots_are_no_things(self):
        given = [(word,) for word in ["i", "j", "k", "l", "m", "n"]]
        self.good(EIGHT + given, [(("p", "?s"), (("q", "?s", "?t", "?u"),), ())])

    def test_filled_rules(self):
        rules = rules_of(3, 7, 2, 0)
        self.assertEqual(len(filled_rules(EIGHT, rules)), 2000)
        self.good(EIGHT, rules)
        self.refused(EIGHT, rules + [rule_of(0)], TooMany)
        self.refused(EIGHT, rules_of(3, 7, 2, 1), TooMany)
        self.refused(EIGHT, rules_of(4, 0, 0, 0), TooMany)
        self.refused(EIGHT, rules_of(20, 0, 0, 0), TooMany)
        self.good(EIGHT, rules_of(3, 7, 1, 2))

    def test_filled_rules_with_fewer_things(self):
        self.good([], rules_of(20, 0, 0, 0))
        self.good(EIGHT[:1], rules_of(20, 0, 0, 0))
        self.good(EIGHT[:4], rules_of(20, 0, 0, 0))
        self.refused(EIGHT[:5], rules_of(20, 0, 0, 0), TooMany)
        self.good(EIGHT[:5], rules_of(16, 0, 0, 0))
        self.refused(EIGHT[:5], rules_of(16, 0, 0, 1), TooMany)


class WrongFactTest(CheckTest):

    def test_each_kind(self):
        for row in BAD_FACTS:
            with self.subTest(row=row):
                self.refused([row], [], BadFact)

    def test_wherever_it_stands(self):
        for row in [(), ("p", "?x"), ("P",), ("p", "A")]:
            with self.subTest(row=row):
                self.refused([("p",), ("q", "a"), row], [], BadFact)
                self.refused([row, ("p",)], [GOOD_RULE], BadFact)
                self.refused([("p",)] * 59 + [row], [GOOD_RULE], BadFact)


class WrongRuleTest(CheckTest):

    def test_each_kind_of_pattern_in_the_head(self):
        for row in BAD_PATTERNS:
            with self.subTest(row=row):
                self.refused([], [(row, (("q", "?x"),), ())], BadRule)

    def test_each_kind_of_pattern_in_the_yeses(self):
        for row in BAD_PATTERNS:
            with self.subTest(row=row):
                self.refused([], [(("p",), (row,), ())], BadRule)
                self.refused([], [(("p",), (("q", "?x"), row), ())], BadRule)
                self.refused([], [(("p",), (row, ("q", "?x")), ())], BadRule)

    def test_each_kind_of_pattern_in_the_nots(self):
        for row in BAD_PATTERNS:
            with self.subTest(row=row):
                self.refused([], [(("p",), (("q", "?x"),), (row,))], BadRule)
                self.refused([], [(("p",), (("q", "?x"),), (("r",), row))], BadRule)
                self.refused([], [(("p",), (("q", "?x"),), (row, ("r",)))], BadRule)

    def test_loose_slots(self):
        for rule in [
            (("p", "?x"), (), ()),
            (("p", "?x"), (("q", "?y"),), ()),
            (("p", "?x"), (("q", "x"),), ()),
            (("p", "?x"), (), (("q", "?x"),)),
            (("p", "?x", "?y"), (("q", "?x"),), (("r", "?y"),)),
            (("p",), (), (("q", "?x"),)),
            (("p",), (("q", "?x"),), (("r", "?x"), ("r", "a", "?y"))),
            (("p",), (("q", "?x"),), (("r", "?xx"),)),
        ]:
            with self.subTest(rule=rule):
                self.refused([], [rule], LooseSlot)
                self.refused([("t", "a")], [GOOD_RULE, rule, GOOD_RULE], LooseSlot)

    def test_a_slot_of_the_yeses_alone_is_not_loose(self):
        self.good([], [(("p",), (("q", "?x"),), ())])

    def test_a_slot_of_another_rule_does_not_count(self):
        self.refused([], [GOOD_RULE, (("p", "?x"), (), ())], LooseSlot)


class OrderTest(CheckTest):

    def test_counts_ahead_of_facts(self):
        self.refused([()] * 61, [], TooMany)
        self.refused([("P",)] + [("p",)] * 60, [], TooMany)
        self.refused([("P",)], [GOOD_RULE] * 21, TooMany)

    def test_counts_ahead_of_rules(self):
        self.refused([("p",)] * 61, [BAD_RULE], TooMany)
        self.refused([("p",)] * 61, [LOOSE_RULE], TooMany)
        self.refused([], [BAD_RULE] * 21, TooMany)
        self.refused([], [LOOSE_RULE] * 21, TooMany)

    def test_facts_ahead_of_rules(self):
        for rule in [BAD_RULE, LONG_RULE, LOOSE_RULE, WIDE_RULE]:
            with self.subTest(rule=rule):
                self.refused([("p",), ("P",)], [rule], BadFact)

    def test_facts_ahead_of_things_and_of_filled_rules(self):
        self.refused(EIGHT + [("t", "i"), ("P",)], [], BadFact)
        self.refused(EIGHT + [("P",)], rules_of(20, 0, 0, 0), BadFact)

    def test_the_first_wrong_rule(self):
        kinds = [(BAD_RULE, BadRule), (LONG_RULE, BadRule), (LOOSE_RULE, LooseSlot), (WIDE_RULE, TooMany)]
        for one, kind in kinds:
            for other, _ in kinds:
                with self.subTest(one=one, other=other):
                    self.refused([], [one, other], kind)
                    self.refused([("p", "a")], [GOOD_RULE, one, GOOD_RULE, other], kind)

    def test_patterns_ahead_of_loose_slots(self):
        self.refused([], [(("p", "?y"), (("q", "X"),), ())], BadRule)
        self.refused([], [(("p", "?y"), (("q", "?x"),), (("r", "X"),))], BadRule)
        self.refused([], [(("p",), (), (("r", "?y"), ("r", "X")))], BadRule)
        self.refused([], [(("p", "X"), (), (("r", "?y"),))], BadRule)

    def test_patterns_ahead_of_how_many_slots(self):
        yeses = (("q", "?a", "?b"), ("q", "?c", "?d"))
        self.refused([], [(("p",), yeses, (("r", "X"),))], BadRule)
        self.refused([], [(("P",), yeses, ())], BadRule)

    def test_yeses_and_nots_ahead_of_loose_slots(self):
        self.refused([], [(("p", "?y"), (("q", "?x"),) * 7, ())], BadRule)
        self.refused([], [(("p",), (("q", "?x"),), (("r", "?y"),) * 6)], BadRule)

    def test_yeses_and_nots_ahead_of_how_many_slots(self):
        self.refused([], [(("p",), (("q", "?a", "?b"), ("q", "?c", "?d")) * 4, ())], BadRule)

    def test_loose_slots_ahead_of_how_many_slots(self):
        yeses = (("q", "?a", "?b"), ("q", "?c", "?d"))
        self.refused([], [(("p", "?e"), yeses, ())], LooseSlot)
        self.refused([], [(("p",), yeses, (("r", "?e"),))], LooseSlot)
        self.refused([], [(("p", "?a", "?b", "?c"), (("q", "?a"),), (("r", "?d"),))], LooseSlot)

    def test_rules_ahead_of_things_and_of_filled_rules(self):
        nine = EIGHT + [("t", "i")]
        for rule, kind in [(BAD_RULE, BadRule), (LONG_RULE, BadRule), (LOOSE_RULE, LooseSlot)]:
            with self.subTest(rule=rule):
                self.refused(nine, [rule], kind)
                self.refused(EIGHT, rules_of(19, 0, 0, 0) + [rule], kind)

    def test_several_wrong_facts(self):
        self.refused([("P",), (), ("p", "?x")], [], BadFact)


if __name__ == "__main__":
    unittest.main()
