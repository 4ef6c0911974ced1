"""Points 6 and 7, and point 1 for them: the interface under notfound/filling.py."""

import copy
import itertools
import unittest

from notfound import filling
from notfound.facts import fitted, put_in, slots_of
from notfound.filling import filled_rules, things_of

GIVEN = [("edge", "a", "b"), ("edge", "b", "a"), ("rain",)]
RULES = [
    (("way", "?y", "?x"), (("edge", "?x", "?y"),), ()),
    (("dry",), (), (("rain",),)),
    (("far", "?x", "?y"), (("node", "?x"), ("node", "?y")), (("edge", "?x", "?y"), ("rain",))),
]


def heads(filled):
    return [head for _, head, _, _ in filled]


class InterfaceTest(unittest.TestCase):

    def test_functions_are_defined_in_their_file(self):
        for name in ["things_of", "filled_rules"]:
            with self.subTest(name=name):
                self.assertEqual(getattr(filling, name).__module__, "notfound.filling")


class ThingsOfTest(unittest.TestCase):

    def told(self, given, rules, things):
        answer = things_of(given, rules)
        self.assertIs(answer.__class__, list)
        self.assertEqual(answer, things)

    def test_nothing_given(self):
        self.told([], [], [])

    def test_things_of_given_facts(self):
        self.told([("p", "c", "a"), ("q", "b")], [], ["a", "b", "c"])

    def test_things_of_heads(self):
        self.told([], [(("p", "b", "a"), (), ())], ["a", "b"])

    def test_things_of_yeses(self):
        self.told([], [(("p",), (("q", "b"), ("r", "c", "a")), ())], ["a", "b", "c"])

    def test_things_of_nots(self):
        self.told([], [(("p",), (), (("q", "b"), ("r", "c", "a")))], ["a", "b", "c"])

    def test_things_of_all_places_together(self):
        given = [("p", "f", "b")]
        rules = [(("p", "e"), (("q", "a"),), (("r", "d"),)), (("s", "c"), (), ())]
        self.told(given, rules, ["a", "b", "c", "d", "e", "f"])

    def test_each_stands_once(self):
        given = [("p", "a", "a"), ("p", "a", "a"), ("q", "a", "b")]
        rules = [(("p", "a"), (("q", "a"), ("q", "b")), (("r", "b", "a"),))] * 2
        self.told(given, rules, ["a", "b"])

    def test_the_order_of_texts(self):
        self.told([("p", "a2", "a10"), ("p", "b", "9", "10"), ("p", "a", "0a")], [],
                  ["0a", "10", "9", "a", "a10", "a2", "b"])
        self.told([("p", "z", "0", "a"), ("p", "9")], [], ["0", "9", "a", "z"])
        self.told([("p", "ab", "b", "aa")], [(("q", "a"), (), ())], ["a", "aa", "ab", "b"])

    def test_words_and_slots_are_no_things(self):
        self.told([("rain",), ("edge", "a")], [(("p", "?x"), (("q", "?x"),), (("r", "?x", "?x"),))], ["a"])
        self.told([("rain",)], [(("p", "?x"), (("q", "?x"),), (("r",),))], [])

    def test_a_thing_called_as_a_word_or_a_slot_is_one(self):
        self.told([("p", "p")], [(("q", "?x"), (("q", "?x"),), (("r", "x"),))], ["p", "x"])

    def test_longest_things(self):
        self.told([("p", "abcdefgh", "00000000", "abcdefg")], [], ["00000000", "abcdefg", "abcdefgh"])

    def test_what_is_handed_in_stays(self):
        given, rules = copy.deepcopy(GIVEN), copy.deepcopy(RULES)
        answer = things_of(given, rules)
        self.assertEqual((given, rules), (GIVEN, RULES))
        given.append(("p", "c"))
        rules.clear()
        self.assertEqual(answer, ["a", "b"])

    def test_the_answer_is_a_new_list_each_time(self):
        answer = things_of(GIVEN, RULES)
        answer.append("z")
        answer[0] = "y"
        self.assertEqual(things_of(GIVEN, RULES), ["a", "b"])
        things_of([], []).append("z")
        self.assertEqual(things_of([], []), [])
        filled_rules(GIVEN, RULES)
        self.assertEqual(things_of(GIVEN, RULES), ["a", "b"])


class FilledRulesTest(unittest.TestCase):

    def told(self, given, rules, filled):
        answer = filled_rules(given, rules)
        self.kinds(answer)
        self.assertEqual(answer, filled)

    def kinds(self, answer):
        self.assertIs(answer.__class__, list)
        for row in answer:
            self.assertIs(row.__class__, tuple)
            place, head, yeses, nots = row
            self.assertIs(place.__class__, int)
            self.assertIs(yeses.__class__, tuple)
            self.assertIs(nots.__class__, tuple)
            for fact in (head, *yeses, *nots):
                self.assertIs(fact.__class__, tuple)
                for text in fact:
                    self.assertIs(text.__class__, str)

    def test_no_rules(self):
        self.told([], [], [])
        self.told(GIVEN, [], [])

    def test_rules_without_slots_are_filled_in_one_way(self):
        rules = [(("p", "a"), (("q", "b"), ("r",)), (("s", "c"),)), (("t",), (("p", "a"),), ())]
        wanted = [(0, ("p", "a"), (("q", "b"), ("r",)), (("s", "c"),)), (1, ("t",), (("p", "a"),), ())]
        self.told([], rules, wanted)
        self.told(GIVEN, rules, wanted)

    def test_a_rule_with_no_yes_and_no_not(self):
        self.told([], [(("p",), (), ())], [(0, ("p",), (), ())])
        self.told([("q", "a")], [(("p", "b"), (), ())], [(0, ("p", "b"), (), ())])

    def test_one_slot(self):
        rules = [(("p", "?x"), (("q", "?x", "c"),), (("r", "?x"), ("s",)))]
        self.told([("q", "b", "a")], rules, [
            (0, ("p", "a"), (("q", "a", "c"),), (("r", "a"), ("s",))),
            (0, ("p", "b"), (("q", "b", "c"),), (("r", "b"), ("s",))),
            (0, ("p", "c"), (("q", "c", "c"),), (("r", "c"), ("s",))),
        ])

    def test_two_slots(self):
        rules = [(("p", "?x", "?y"), (("q", "?x"), ("q", "?y")), (("p", "?y", "?x"),))]
        self.told([("q", "b"), ("q", "a")], rules, [
            (0, ("p", "a", "a"), (("q", "a"), ("q", "a")), (("p", "a", "a"),)),
            (0, ("p", "a", "b"), (("q", "a"), ("q", "b")), (("p", "b", "a"),)),
            (0, ("p", "b", "a"), (("q", "b"), ("q", "a")), (("p", "a", "b"),)),
            (0, ("p", "b", "b"), (("q", "b"), ("q", "b")), (("p", "b", "b"),)),
        ])

    def test_three_slots(self):
        rules = [(("p", "?x", "?y", "?z"), (("q", "?x", "?y"), ("q", "?y", "?z")), ())]
        answer = filled_rules([("n", "b", "a")], rules)
        self.kinds(answer)
        self.assertEqual(heads(answer), [("p", *things) for things in itertools.product("ab", repeat=3)])
        self.assertEqual(answer[3], (0, ("p", "a", "b", "b"), (("q", "a", "b"), ("q", "b", "b")), ()))
        self.assertEqual(answer[4], (0, ("p", "b", "a", "a"), (("q", "b", "a"), ("q", "a", "a")), ()))

    def test_slots_are_in_the_order_of_the_yeses_where_the_head_has_another(self):
        rules = [(("p", "?x", "?y"), (("q", "?y"), ("q", "?x")), ())]
        self.assertEqual(heads(filled_rules([("q", "a", "b")], rules)),
                         [("p", "a", "a"), ("p", "b", "a"), ("p", "a", "b"), ("p", "b", "b")])
        rules = [(("p", "?a", "?b", "?c"), (("q", "?c", "?a"), ("q", "?b")), ())]
        self.assertEqual(heads(filled_rules([("q", "0", "1")], rules)),
                         [("p", a, b, c) for c in "01" for a in "01" for b in "01"])

    def test_slots_are_in_the_order_of_the_yeses_where_the_nots_have_another(self):
        rules = [(("p",), (("q", "?y", "?x"),), (("r", "?x", "?y"),))]
        self.told([("n", "a", "b")], rules, [
            (0, ("p",), (("q", "a", "a"),), (("r", "a", "a"),)),
            (0, ("p",), (("q", "a", "b"),), (("r", "b", "a"),)),
            (0, ("p",), (("q", "b", "a"),), (("r", "a", "b"),)),
            (0, ("p",), (("q", "b", "b"),), (("r", "b", "b"),)),
        ])

    def test_slots_count_where_they_first_stand(self):
        rules = [(("p", "?x", "?y"), (("q", "?y"), ("r", "?x", "?y"), ("q", "?x")), ())]
        self.assertEqual(heads(filled_rules([("q", "a", "b")], rules)),
                         [("p", "a", "a"), ("p", "b", "a"), ("p", "a", "b"), ("p", "b", "b")])

    def test_a_slot_of_the_yeses_alone_is_filled_too(self):
        rules = [(("p", "?x"), (("q", "?x", "?y"),), ())]
        self.told([("q", "b", "a")], rules, [
            (0, ("p", "a"), (("q", "a", "a"),), ()),
            (0, ("p", "a"), (("q", "a", "b"),), ()),
            (0, ("p", "b"), (("q", "b", "a"),), ()),
            (0, ("p", "b"), (("q", "b", "b"),), ()),
        ])

    def test_one_slot_twice_in_a_pattern(self):
        rules = [(("p",), (("q", "?x", "?x"),), ())]
        self.told([("n", "a", "b")], rules,
                  [(0, ("p",), (("q", "a", "a"),), ()), (0, ("p",), (("q", "b", "b"),), ())])

    def test_the_order_of_things_is_that_of_texts(self):
        rules = [(("p", "?x"), (("q", "?x"),), ())]
        self.assertEqual(heads(filled_rules([("q", "b", "a2", "a10"), ("q", "9")], rules)),
                         [("p", "9"), ("p", "a10"), ("p", "a2"), ("p", "b")])

    def test_the_order_by_the_rules_comes_first(self):
        rules = [
            (("z", "?x"), (("q", "?x"),), ()),
            (("m",), (), ()),
            (("a", "?x"), (("q", "?x"),), ()),
        ]
        answer = filled_rules([("q", "b", "a")], rules)
        self.assertEqual(heads(answer), [("z", "a"), ("z", "b"), ("m",), ("a", "a"), ("a", "b")])
        self.assertEqual([row[0] for row in answer], [0, 0, 1, 2, 2])

    def test_yeses_and_nots_stay_in_their_order(self):
        rules = [(("p",), (("z",), ("a",), ("z",)), (("y",), ("b",), ("y",)))]
        self.told([], rules, [(0, ("p",), (("z",), ("a",), ("z",)), (("y",), ("b",), ("y",)))])

    def test_a_rule_with_slots_where_there_are_no_things(self):
        rules = [
            (("p", "?x"), (("q", "?x"),), ()),
            (("r",), (), (("s",),)),
            (("t",), (("q", "?x", "?y", "?z"),), ()),
        ]
        self.told([], rules, [(1, ("r",), (), (("s",),))])
        self.told([("rain",)], rules, [(1, ("r",), (), (("s",),))])

    def test_things_of_other_rules_fill_a_rule(self):
        rules = [(("p", "?x"), (("q", "?x"),), ()), (("r", "c"), (("s", "b"),), (("t", "a"),))]
        self.assertEqual(heads(filled_rules([], rules)), [("p", "a"), ("p", "b"), ("p", "c"), ("r", "c")])

    def test_a_rule_that_stands_twice_is_filled_twice(self):
        rule = (("p", "?x"), (("q", "?x"),), ())
        self.told([("q", "b", "a")], [rule, rule], [
            (0, ("p", "a"), (("q", "a"),), ()),
            (0, ("p", "b"), (("q", "b"),), ()),
            (1, ("p", "a"), (("q", "a"),), ()),
            (1, ("p", "b"), (("q", "b"),), ()),
        ])

    def test_a_given_fact_that_stands_twice_says_nothing_more(self):
        rules = [(("p", "?x"), (("q", "?x"),), ())]
        once = filled_rules([("q", "a")], rules)
        self.assertEqual(filled_rules([("q", "a"), ("q", "a")], rules), once)

    def test_eight_things_in_three_slots(self):
        rules = [(("p", "?x", "?y", "?z"), (("q", "?x", "?y", "?z"),), (("r", "?z"),))]
        given = [("n", "h", "g", "f"), ("n", "e", "d", "c"), ("n", "b", "a")]
        answer = filled_rules(given, rules)
        self.kinds(answer)
        self.assertEqual(heads(answer), [("p", *things) for things in itertools.product("abcdefgh", repeat=3)])

    def test_each_pattern_fits_what_it_was_filled_to(self):
        for place, head, yeses, nots in filled_rules(GIVEN, RULES):
            rule = RULES[place]
            found = {}
            for pattern, fact in zip(rule[1], yeses):
                found.update(fitted(pattern, fact))
            self.assertEqual(list(found), slots_of(rule[1]))
            self.assertEqual(head, put_in(rule[0], found))
            self.assertEqual(nots, tuple(put_in(pattern, found) for pattern in rule[2]))

    def test_more_than_may_be_is_no_error_here(self):
        rule = (("p", "?x", "?y", "?z"), (("q", "?x", "?y", "?z"),), ())
        given = [("n", thing) for thing in "abcdefghi"] * 7
        self.assertEqual(len(things_of(given, [rule] * 21)), 9)
        self.assertEqual(len(filled_rules(given, [rule] * 21)), 21 * 9 ** 3)

    def test_what_is_handed_in_stays(self):
        given, rules = copy.deepcopy(GIVEN), copy.deepcopy(RULES)
        answer = filled_rules(given, rules)
        self.assertEqual((given, rules), (GIVEN, RULES))
        kept = copy.deepcopy(answer)
        given.append(("p", "c"))
        rules.clear()
        self.assertEqual(answer, kept)

    def test_the_answer_is_a_new_list_each_time(self):
        answer = filled_rules(GIVEN, RULES)
        kept = copy.deepcopy(answer)
        answer.pop()
        answer[0] = None
        self.assertEqual(filled_rules(GIVEN, RULES), kept)
        filled_rules([], []).append(None)
        self.assertEqual(filled_rules([], []), [])


if __name__ == "__main__":
    unittest.main()
