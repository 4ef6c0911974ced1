"""Point 11, and point 1 for it: the interface under notfound/rings.py."""

import copy
import unittest

from notfound.deciding import decided
from notfound.errors import NotfoundError, NotOpen
from notfound.rings import ring
from tests.programs import GAME, PROGRAMS, all_programs, facts_in, moves

A, B, C, D, E = [(word,) for word in "abcde"]


def fields(verdict):
    return copy.deepcopy((verdict.filled, verdict.story, verdict.left))


class InterfaceTest(unittest.TestCase):

    def test_ring_is_defined_in_its_file(self):
        self.assertEqual(ring.__module__, "notfound.rings")


class RingTest(unittest.TestCase):

    def step_holds(self, verdict, step):
        """One fact hangs on the other as point 11 says."""
        self.assertIs(step.__class__, tuple)
        one, place, by, other = step
        self.assertGreaterEqual(place, 0)
        _, head, yeses, nots = verdict.filled[place]
        self.assertEqual(head, one)
        self.assertIn(by, ["yes", "not"])
        self.assertIn(other, yeses if by == "yes" else nots)
        self.assertEqual([verdict.said(fact) for fact in [one, other]], ["open", "open"])
        self.assertNotIn("no", [verdict.said(fact) for fact in yeses])
        self.assertNotIn("yes", [verdict.said(fact) for fact in nots])

    def told(self, verdict, fact):
        """What is told, once it is as the interface says."""
        before = fields(verdict)
        pair = ring(verdict, fact)
        self.assertEqual(fields(verdict), before)
        self.assertEqual([part.__class__ for part in (pair, *pair)], [tuple, list, list])
        way, around = pair
        for step in way + around:
            self.step_holds(verdict, step)
        for step, after in zip(way + around, (way + around)[1:]):
            self.assertEqual(step[3], after[0])
        self.assertGreater(len(around), 0)
        self.assertEqual((way + around)[0][0], fact)
        self.assertEqual(around[-1][3], around[0][0])
        self.assertIn("not", [by for _, _, by, _ in around])
        # A fact that begins the ring needs no way to it.
        self.assertNotIn(around[0][0], [one for one, _, _, _ in way])
        return pair

    def refused(self, verdict, fact):
        before = fields(verdict)
        with self.assertRaises(ValueError) as caught:
            ring(verdict, fact)
        self.assertIs(caught.exception.__class__, NotOpen)
        self.assertIsInstance(caught.exception, NotfoundError)
        self.assertEqual(fields(verdict), before)

    def test_each_fact_of_the_programs(self):
        opens = 0
        for name, (given, rules) in all_programs():
            with self.subTest(name=name):
                verdict = decided(given, rules)
                for fact in sorted(facts_in(verdict.filled) | set(given)):
                    if verdict.said(fact) == "open":
                        opens += 1
                        self.assertIn(fact, verdict.left)
                        self.told(verdict, fact)
                    else:
                        self.refused(verdict, fact)
        self.assertGreater(opens, 100)

    def test_a_not_of_itself(self):
        verdict = decided([], [(A, (), (A,))])
        self.assertEqual(self.told(verdict, A), ([], [(A, 0, "not", A)]))

    def test_a_yes_and_a_not_of_itself(self):
        verdict = decided([], [(A, (), (B,)), (B, (), (A,)), (A, (A,), (A,))])
        self.told(verdict, A)
        self.told(verdict, B)

    def test_a_ring_through_two_nots(self):
        verdict = decided([], [(A, (), (B,)), (B, (), (A,))])
        there, back = (A, 0, "not", B), (B, 1, "not", A)
        self.assertEqual(self.told(verdict, A), ([], [there, back]))
        self.assertEqual(self.told(verdict, B), ([], [back, there]))

    def test_a_ring_with_one_not(self):
        verdict = decided([], [(A, (B,), ()), (B, (C,), ()), (C, (), (A,))])
        steps = [(A, 0, "yes", B), (B, 1, "yes", C), (C, 2, "not", A)]
        self.assertEqual(self.told(verdict, A), ([], steps))
        self.assertEqual(self.told(verdict, B), ([], steps[1:] + steps[:1]))
        self.assertEqual(self.told(verdict, C), ([], steps[2:] + steps[:2]))

    def test_a_way_to_a_ring(self):
        given, rules = PROGRAMS["a way to a ring"]
        verdict = decided(given, rules)
        self.assertEqual(verdict.left, [A, B, C, D])
        steps = [(A, 0, "yes", B), (B, 1, "not", C), (C, 2, "yes", D), (D, 3, "not", C)]
        self.assertEqual(self.told(verdict, A), (steps[:2], steps[2:]))
        self.assertEqual(self.told(verdict, B), (steps[1:2], steps[2:]))
        self.assertEqual(self.told(verdict, C), ([], steps[2:]))
        self.assertEqual(self.told(verdict, D), ([], [steps[3], steps[2]]))

    def test_a_ring_of_yeses_alone_is_not_enough(self):
        given, rules = PROGRAMS["open by way of yeses that hang on each other"]
        verdict = decided(given, rules)
        self.assertEqual(verdict.left, [("n",), ("p",), ("q",)])
        for fact in verdict.left:
            self.told(verdict, fact)

    def test_a_rule_that_cannot_enter_the_fact_is_no_step(self):
        rules = [
            (A, (A, D), ()),
            (A, (), (A, E)),
            (A, (D,), (B,)),
            (A, (), (E, B)),
            (A, (E,), (B,)),
            (B, (), (A,)),
        ]
        verdict = decided([E], rules)
        self.assertEqual(verdict.left, [A, B])
        steps = [(A, 4, "not", B), (B, 5, "not", A)]
        self.assertEqual(self.told(verdict, A), ([], steps))
        self.assertEqual(self.told(verdict, B), ([], steps[::-1]))

    def test_facts_that_were_told_are_no_steps(self):
        rules = [(A, (E, B), (D, C)), (B, (), (A,)), (C, (B,), (D,))]
        verdict = decided([E], rules)
        self.assertEqual(verdict.left, [A, B, C])
        for fact in verdict.left:
            self.told(verdict, fact)

    def test_the_game(self):
        verdict = decided(moves("ab ba bc cd ea ff"), [GAME])
        self.assertEqual(verdict.left, [("win", thing) for thing in "abef"])
        way, around = self.told(verdict, ("win", "e"))
        self.assertEqual([one for one, _, _, _ in way], [("win", "e")])
        self.assertEqual([one for one, _, _, _ in around], [("win", "a"), ("win", "b")])
        way, around = self.told(verdict, ("win", "f"))
        self.assertEqual((way, len(around)), ([], 1))

    def test_facts_that_are_yes_no_or_stand_nowhere(self):
        verdict = decided([A, *moves("ab ba cd")], [GAME, (B, (A,), ()), (C, (D,), ())])
        self.assertEqual(verdict.left, [("win", "a"), ("win", "b")])
        for fact in [A, B, ("move", "a", "b"), ("win", "c")]:
            self.assertEqual(verdict.said(fact), "yes")
            self.refused(verdict, fact)
        for fact in [C, D, ("win", "d"), ("move", "b", "b")]:
            self.assertEqual(verdict.said(fact), "no")
            self.refused(verdict, fact)
        for fact in [E, ("win",), ("win", "z"), ("win", "a", "b")]:
            self.refused(verdict, fact)

    def test_nothing_is_open(self):
        verdict = decided([], [])
        self.refused(verdict, A)

    def test_a_long_ring(self):
        words = [("w", one, other) for one in "abcdefgh" for other in "abcdefgh"]
        given = [("next", one, other) for one, other in zip("abcdefgh", "bcdefgh")]
        rules = [
            (("w", "?x", "?y"), (("next", "?y", "?z"), ("dom", "?x")), (("w", "?x", "?z"),)),
            (("w", "?x", "h"), (("next", "?x", "?y"),), (("w", "?y", "a"),)),
            (("w", "h", "h"), (), (("v",),)),
            (("v",), (("w", "a", "a"),), ()),
        ]
        verdict = decided(given + [("dom", thing) for thing in "abcdefgh"], rules)
        self.assertEqual(verdict.left, [("v",), *words])
        for fact in verdict.left:
            way, around = self.told(verdict, fact)
            self.assertEqual((len(way), len(around)), (0, 65))

    def test_lists_are_new(self):
        verdict = decided(moves("ab ba ca"), [GAME])
        before = copy.deepcopy(ring(verdict, ("win", "c")))
        first = ring(verdict, ("win", "c"))
        first[0].clear()
        first[1].append("more")
        self.assertEqual(ring(verdict, ("win", "c")), before)
        self.assertEqual(verdict.said(("win", "c")), "open")


if __name__ == "__main__":
    unittest.main()
