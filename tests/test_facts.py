"""Points 2 to 5, and point 1 for them: the interface under notfound/facts.py."""

import unittest

from notfound import facts
from notfound.facts import fitted, put_in, slots_of


class InterfaceTest(unittest.TestCase):

    def test_functions_are_defined_in_their_file(self):
        for name in ["slots_of", "put_in", "fitted"]:
            with self.subTest(name=name):
                self.assertEqual(getattr(facts, name).__module__, "notfound.facts")


class SlotsOfTest(unittest.TestCase):

    def both(self, patterns, slots):
        """The same must be told for a list and for a tuple of the patterns."""
        for rows in (list(patterns), tuple(patterns)):
            with self.subTest(kind=rows.__class__.__name__):
                told = slots_of(rows)
                self.assertIs(told.__class__, list)
                self.assertEqual(told, slots)

    def test_no_pattern(self):
        self.both([], [])

    def test_patterns_without_slots(self):
        self.both([("rain",), ("edge", "a", "b"), ("at", "x", "y", "z")], [])

    def test_one_slot(self):
        self.both([("p", "?x")], ["?x"])

    def test_a_slot_in_several_places_of_a_pattern_stands_once(self):
        self.both([("p", "?x", "a", "?x")], ["?x"])
        self.both([("p", "?x", "?x", "?x")], ["?x"])

    def test_a_slot_in_several_patterns_stands_once(self):
        self.both([("p", "?x"), ("q", "a", "?x"), ("p", "?x")], ["?x"])

    def test_slots_stand_as_they_first_come(self):
        self.both([("p", "?z", "?a"), ("q", "?m", "?a", "?z"), ("r", "?b")], ["?z", "?a", "?m", "?b"])
        self.both([("p", "?b"), ("p", "?a")], ["?b", "?a"])
        self.both([("p", "?a"), ("p", "?b")], ["?a", "?b"])

    def test_slots_that_are_alike_are_told_apart(self):
        self.both([("x", "?x", "x", "?xx")], ["?x", "?xx"])

    def test_slots_with_words_of_eight_letters(self):
        self.both([("abcdefgh", "?abcdefgh", "abcdefgh", "?abcdefgi")], ["?abcdefgh", "?abcdefgi"])

    def test_the_answer_is_a_new_list_each_time(self):
        patterns = [("p", "?x", "?y")]
        told = slots_of(patterns)
        self.assertIsNot(told, slots_of(patterns))
        told.append("?z")
        told[0] = "?w"
        self.assertEqual(slots_of(patterns), ["?x", "?y"])
        slots_of([]).append("?z")
        self.assertEqual(slots_of([]), [])

    def test_the_patterns_stay(self):
        patterns = [("p", "?x", "?y"), ("q", "?x")]
        told = slots_of(patterns)
        self.assertEqual(patterns, [("p", "?x", "?y"), ("q", "?x")])
        patterns.append(("r", "?z"))
        self.assertEqual(told, ["?x", "?y"])


class PutInTest(unittest.TestCase):

    def told(self, pattern, filling, result):
        answer = put_in(pattern, filling)
        self.assertIs(answer.__class__, tuple)
        self.assertEqual(answer, result)

    def test_all_slots_are_told(self):
        self.told(("p", "?x", "?y"), {"?x": "a", "?y": "b"}, ("p", "a", "b"))
        self.told(("p", "?y", "c", "?x"), {"?x": "a", "?y": "b"}, ("p", "b", "c", "a"))

    def test_a_slot_in_several_places(self):
        self.told(("p", "?x", "?x", "?x"), {"?x": "a1"}, ("p", "a1", "a1", "a1"))

    def test_some_slots_are_told(self):
        self.told(("p", "?x", "?y"), {"?y": "b"}, ("p", "?x", "b"))
        self.told(("p", "?x", "?y", "?x"), {"?x": "b"}, ("p", "b", "?y", "b"))

    def test_no_slot_is_told(self):
        self.told(("p", "?x", "a"), {}, ("p", "?x", "a"))
        self.told(("p", "?x", "a"), {"?y": "b"}, ("p", "?x", "a"))

    def test_more_is_told_than_stands_there(self):
        self.told(("p", "?x"), {"?x": "a", "?y": "b", "?z": "c"}, ("p", "a"))
        self.told(("p", "a", "b"), {"?x": "c"}, ("p", "a", "b"))

    def test_a_word_alone(self):
        self.told(("p",), {}, ("p",))
        self.told(("p",), {"?p": "a"}, ("p",))

    def test_words_and_things_called_as_a_slot_stay(self):
        self.told(("x", "x", "?x"), {"?x": "a"}, ("x", "x", "a"))

    def test_two_slots_may_stand_for_one_thing(self):
        self.told(("p", "?x", "?y"), {"?x": "a", "?y": "a"}, ("p", "a", "a"))

    def test_the_dict_and_the_pattern_stay(self):
        pattern = ("p", "?x", "?y")
        filling = {"?x": "a", "?z": "c"}
        answer = put_in(pattern, filling)
        self.assertEqual(pattern, ("p", "?x", "?y"))
        self.assertEqual(list(filling.items()), [("?x", "a"), ("?z", "c")])
        filling["?x"] = "b"
        self.assertEqual(answer, ("p", "a", "?y"))
        self.assertEqual(put_in(pattern, filling), ("p", "b", "?y"))


class FittedTest(unittest.TestCase):

    def fits(self, pattern, fact, filling):
        answer = fitted(pattern, fact)
        self.assertIs(answer.__class__, dict)
        self.assertEqual(answer, filling)
        self.assertEqual(put_in(pattern, answer), fact)

    def test_a_pattern_without_slots_that_is_the_fact(self):
        self.fits(("p",), ("p",), {})
        self.fits(("p", "a", "b"), ("p", "a", "b"), {})

    def test_a_pattern_without_slots_that_is_not_the_fact(self):
        self.assertIsNone(fitted(("p", "a", "b"), ("p", "b", "a")))
        self.assertIsNone(fitted(("p", "a"), ("p", "b")))
        self.assertIsNone(fitted(("p",), ("q",)))

    def test_slots_take_the_things_in_their_places(self):
        self.fits(("p", "?x"), ("p", "a"), {"?x": "a"})
        self.fits(("p", "?y", "?x"), ("p", "a", "b"), {"?y": "a", "?x": "b"})
        self.fits(("p", "?x", "c", "?y"), ("p", "a", "c", "b"), {"?x": "a", "?y": "b"})
        self.fits(("p", "?x", "?y", "?z"), ("p", "0", "1", "2"), {"?x": "0", "?y": "1", "?z": "2"})

    def test_two_slots_may_take_the_same_thing(self):
        self.fits(("p", "?x", "?y"), ("p", "a", "a"), {"?x": "a", "?y": "a"})

    def test_one_slot_twice_with_the_same_thing(self):
        self.fits(("p", "?x", "?x"), ("p", "a", "a"), {"?x": "a"})
        self.fits(("p", "?x", "b", "?x"), ("p", "a", "b", "a"), {"?x": "a"})
        self.fits(("p", "?x", "?y", "?x"), ("p", "a", "b", "a"), {"?x": "a", "?y": "b"})

    def test_one_slot_twice_with_two_things(self):
        self.assertIsNone(fitted(("p", "?x", "?x"), ("p", "a", "b")))
        self.assertIsNone(fitted(("p", "?x", "?x"), ("p", "b", "a")))
        self.assertIsNone(fitted(("p", "?x", "?x", "?x"), ("p", "a", "b", "a")))
        self.assertIsNone(fitted(("p", "?x", "?x", "?x"), ("p", "a", "a", "b")))
        self.assertIsNone(fitted(("p", "?x", "?x", "?x"), ("p", "b", "a", "a")))

    def test_another_word(self):
        self.assertIsNone(fitted(("p", "?x"), ("q", "a")))
        self.assertIsNone(fitted(("p", "a"), ("q", "a")))

    def test_another_thing_beside_a_slot(self):
        self.assertIsNone(fitted(("p", "?x", "b"), ("p", "a", "c")))
        self.assertIsNone(fitted(("p", "b", "?x"), ("p", "c", "a")))

    def test_one_thing_more(self):
        self.assertIsNone(fitted(("p", "?x"), ("p", "a", "b")))
        self.assertIsNone(fitted(("p", "?x"), ("p", "a", "a")))
        self.assertIsNone(fitted(("p", "a"), ("p", "a", "b")))
        self.assertIsNone(fitted(("p",), ("p", "a")))

    def test_one_thing_less(self):
        self.assertIsNone(fitted(("p", "?x", "?y"), ("p", "a")))
        self.assertIsNone(fitted(("p", "?x", "?x"), ("p", "a")))
        self.assertIsNone(fitted(("p", "a", "b"), ("p", "a")))
        self.assertIsNone(fitted(("p", "?x"), ("p",)))

    def test_a_thing_called_as_a_slot_or_a_word(self):
        self.fits(("p", "?x", "x"), ("p", "p", "x"), {"?x": "p"})
        self.assertIsNone(fitted(("p", "?x", "x"), ("p", "x", "a")))

    def test_the_answer_is_a_new_dict_each_time(self):
        for pattern, fact in ((("p", "?x"), ("p", "a")), (("p",), ("p",))):
            with self.subTest(pattern=pattern):
                first = fitted(pattern, fact)
                wanted = dict(first)
                first["?x"] = "b"
                first["?y"] = "c"
                self.assertEqual(fitted(pattern, fact), wanted)

    def test_the_pattern_and_the_fact_stay(self):
        pattern, fact = ("p", "?x", "?y"), ("p", "a", "b")
        fitted(pattern, fact)
        self.assertEqual((pattern, fact), (("p", "?x", "?y"), ("p", "a", "b")))


if __name__ == "__main__":
    unittest.main()
