"""Points 9 and 10, and point 1 for them: the interface under notfound/deciding.py."""

import copy
import itertools
import random
import unittest

from notfound import deciding
from notfound.deciding import Verdict, decided, entered, kept_out
from notfound.errors import BadFact, BadRule, LooseSlot, TooMany
from notfound.filling import filled_rules
from tests.programs import GAME, PROGRAMS, all_programs, facts_in, moves, subsets, worked_out

A, B, C, D, E = [(word,) for word in "abcde"]


def rows(*rules):
    """Filled rules, all with the same number."""
    return [(0, head, tuple(yeses), tuple(nots)) for head, yeses, nots in rules]


def some_filled(number):
    """Filled rules with few facts, and facts told yes and no, the same for the same number."""
    chance = random.Random(number)
    facts = [A, B, C, D, E, ("a", "b")]
    filled = []
    for _ in range(chance.randrange(9)):
        yeses = tuple(chance.choice(facts) for _ in range(chance.choice([0, 1, 1, 2, 3])))
        nots = tuple(chance.choice(facts) for _ in range(chance.choice([0, 0, 1, 2])))
        filled.append((chance.randrange(-3, 9), chance.choice(facts), yeses, nots))
    some = facts + [("z",)]
    chance.shuffle(some)
    first = chance.randrange(4)
    return filled, some[:first], some[first:first + chance.randrange(4)]


class InterfaceTest(unittest.TestCase):

    def test_all_is_defined_in_its_file(self):
        for name in ["entered", "kept_out", "Verdict", "decided"]:
            with self.subTest(name=name):
                self.assertEqual(getattr(deciding, name).__module__, "notfound.deciding")

    def test_said_stands_in_the_class(self):
        self.assertIn("said", vars(Verdict))


class EnteredTest(unittest.TestCase):

    def pairs(self, filled, told, refuted):
        """What is told, once it is one behind the other as the interface says."""
        before = copy.deepcopy((filled, told, refuted))
        answer = entered(filled, told, refuted)
        self.assertEqual((filled, told, refuted), before)
        self.assertIs(answer.__class__, list)
        yes = set(told)
        for pair in answer:
            self.assertIs(pair.__class__, tuple)
            fact, place = pair
            self.assertNotIn(fact, yes)
            self.assertNotIn(fact, refuted)
            _, head, yeses, nots = filled[place]
            self.assertGreaterEqual(place, 0)
            self.assertEqual(head, fact)
            self.assertLessEqual(set(yeses), yes)
            self.assertLessEqual(set(nots), set(refuted))
            yes.add(fact)
        for _, head, yeses, nots in filled:
            if set(yeses) <= yes and set(nots) <= set(refuted):
                self.assertIn(head, yes | set(refuted))
        return answer

    def facts(self, filled, told, refuted):
        return sorted(fact for fact, _ in self.pairs(filled, told, refuted))

    def test_no_filled_rules(self):
        self.assertEqual(self.pairs([], [], []), [])
        self.assertEqual(self.pairs([], [A], [B]), [])

    def test_a_rule_with_no_yes_and_no_not(self):
        self.assertEqual(self.pairs(rows((A, [], [])), [], []), [(A, 0)])

    def test_a_yes_must_be_told_yes(self):
        filled = rows((A, [B], []))
        self.assertEqual(self.pairs(filled, [], []), [])
        self.assertEqual(self.pairs(filled, [], [B]), [])
        self.assertEqual(self.pairs(filled, [B], []), [(A, 0)])

    def test_a_not_must_be_told_no(self):
        filled = rows((A, [], [B]))
        self.assertEqual(self.pairs(filled, [], []), [])
        self.assertEqual(self.pairs(filled, [B], []), [])
        self.assertEqual(self.pairs(filled, [], [B]), [(A, 0)])

    def test_all_yeses_and_all_nots_count(self):
        filled = rows((A, [B, C], [D, E]))
        for many in range(3):
            for less in range(3):
                with self.subTest(many=many, less=less):
                    answer = self.pairs(filled, [B, C][:many], [E, D][:less])
                    self.assertEqual(answer, [(A, 0)] if many == less == 2 else [])

    def test_a_fact_that_stands_twice_in_a_rule(self):
        filled = rows((A, [B, B], [C, C]), (D, [A, A, A], []))
        self.assertEqual(self.pairs(filled, [B], [C]), [(A, 0), (D, 1)])

    def test_facts_that_stand_in_no_filled_rule(self):
        filled = rows((A, [B], [C]))
        self.assertEqual(self.pairs(filled, [E, B], [D, C]), [(A, 0)])
        self.assertEqual(self.pairs(filled, [E], [D]), [])

    def test_a_head_that_was_told_is_not_told_again(self):
        filled = rows((A, [], []), (B, [A], []))
        self.assertEqual(self.pairs(filled, [A], []), [(B, 1)])
        self.assertEqual(self.pairs(filled, [], [A]), [])
        self.assertEqual(self.pairs(filled, [], [B]), [(A, 0)])
        self.assertEqual(self.pairs(filled, [A, B], []), [])

    def test_the_head_of_several_rules_is_told_once(self):
        filled = rows((A, [], [C]), (A, [B], []), (A, [], []), (A, [B], []))
        answer = self.pairs(filled, [B], [])
        self.assertEqual(len(answer), 1)
        self.assertIn(answer[0], [(A, 1), (A, 2), (A, 3)])

    def test_a_chain_in_any_order(self):
        chain = rows((B, [A], []), (C, [B], []), (D, [C, A], []), (E, [D], []))
        for filled in itertools.permutations(chain):
            answer = self.pairs(list(filled), [A], [])
            self.assertEqual([fact for fact, _ in answer], [B, C, D, E])
            self.assertEqual([filled[place][1] for _, place in answer], [B, C, D, E])

    def test_a_long_chain_from_its_end(self):
        facts = [("f", f"{number:04d}") for number in range(2500)]
        chain = rows(*[(head, [fact], []) for fact, head in zip(facts, facts[1:])])
        answer = self.pairs(chain[::-1], facts[:1], [])
        self.assertEqual([fact for fact, _ in answer], facts[1:])

    def test_the_place_is_not_the_number_of_the_filled_rule(self):
        filled = [(7, C, (B,), ()), (-4, E, (D,), ()), (0, B, (), ()), (7, D, (), (A,))]
        self.assertEqual(sorted(self.pairs(filled, [], [])), [(B, 2), (C, 0)])
        self.assertEqual(sorted(self.pairs(filled, [], [A])), [(B, 2), (C, 0), (D, 3), (E, 1)])

    def test_a_ring_of_yeses_enters_nothing(self):
        filled = rows((A, [B], []), (B, [A], []), (C, [C], []))
        self.assertEqual(self.pairs(filled, [], []), [])
        self.assertEqual(self.pairs(filled, [A], []), [(B, 1)])

    def test_nothing_comes_to_be_no_meanwhile(self):
        self.assertEqual(self.pairs(rows((A, [], [B]), (B, [C], [])), [], []), [])

    def test_what_is_told_no_stays_no(self):
        filled = rows((A, [], []), (B, [A], []), (C, [], [A]))
        self.assertEqual(self.facts(filled, [], [A]), [C])

    def test_small_filled_rules(self):
        for number in range(1500):
            with self.subTest(number=number):
                filled, told, refuted = some_filled(number)
                facts = self.facts(filled, told, refuted)
                self.assertEqual(self.facts(filled[::-1], told[::-1], refuted[::-1]), facts)

    def test_lists_are_new(self):
        filled = rows((A, [], []), (B, [A], []))
        first = entered(filled, [], [])
        first.clear()
        self.assertEqual(entered(filled, [], []), [(A, 0), (B, 1)])


class KeptOutTest(unittest.TestCase):

    def told(self, filled, told, refuted):
        before = copy.deepcopy((filled, told, refuted))
        answer = kept_out(filled, told, refuted)
        self.assertEqual((filled, told, refuted), before)
        self.assertIs(answer.__class__, list)
        self.assertEqual(answer, sorted(set(answer)))
        return answer

    def none_enters(self, facts, filled, told, refuted):
        """The third row of point 9, word by word."""
        for _, head, yeses, nots in filled:
            if head in facts:
                out = any(fact in refuted or fact in facts for fact in yeses)
                if not out and not any(fact in told for fact in nots):
                    return False
        return True

    def greatest(self, filled, told, refuted):
        """All facts of all sets that the third row of point 9 tells no."""
        rest = sorted(facts_in(filled) - set(told) - set(refuted))
        found = set()
        for facts in subsets(rest):
            if self.none_enters(facts, filled, told, refuted):
                found |= facts
        return sorted(found)

    def test_no_filled_rules(self):
        self.assertEqual(self.told([], [], []), [])
        self.assertEqual(self.told([], [A], [B]), [])

    def test_facts_that_are_no_heads(self):
        filled = rows((E, [D, B], [C, A]))
        self.assertEqual(self.told(filled, [], []), [A, B, C, D, E])
        self.assertEqual(self.told(filled, [D, B], []), [A, C])
        self.assertEqual(self.told(filled, [B], [A]), [C, D, E])

    def test_a_rule_with_no_yes_and_no_not(self):
        self.assertEqual(self.told(rows((A, [], [])), [], []), [])

    def test_facts_that_stand_in_no_filled_rule(self):
        filled = rows((A, [B], []))
        self.assertEqual(self.told(filled, [C], [D]), [A, B])

    def test_facts_that_were_told_are_not_told_again(self):
        filled = rows((A, [B], [C]))
        self.assertEqual(self.told(filled, [A], [B]), [C])
        self.assertEqual(self.told(filled, [A, C], [B]), [])

    def test_a_yes_that_was_told_no(self):
        filled = rows((A, [B, C], []), (B, [], []))
        self.assertEqual(self.told(filled, [], [C]), [A])
        self.assertEqual(self.told(filled, [C], []), [])

    def test_a_not_that_was_told_yes(self):
        filled = rows((A, [], [B, C]), (B, [], [C]), (C, [], [B]))
        self.assertEqual(self.told(filled, [B], []), [A, C])
        self.assertEqual(self.told(filled, [], []), [])

    def test_a_not_that_is_among_them_is_no_help(self):
        self.assertEqual(self.told(rows((A, [], [B])), [], []), [B])
        self.assertEqual(self.told(rows((A, [], [A])), [], []), [])

    def test_a_ring_of_yeses_is_kept_out_together(self):
        ring = rows((A, [B], []), (B, [C], []), (C, [A], []), (D, [A], []), (E, [E], []))
        self.assertEqual(self.told(ring, [], []), [A, B, C, D, E])
        self.assertEqual(self.told(ring + rows((B, [], [])), [], []), [E])
        self.assertEqual(self.told(ring + rows((B, [D], [])), [], []), [A, B, C, D, E])

    def test_the_head_of_several_rules(self):
        filled = rows((A, [B], []), (A, [], [C]), (A, [D], []), (C, [], [D]), (D, [], [C]))
        self.assertEqual(self.told(filled, [], []), [B])
        self.assertEqual(self.told(filled, [C], []), [A, B, D])
        self.assertEqual(self.told(filled, [C, B], []), [D])

    def test_a_told_yes_may_enter(self):
        filled = rows((A, [B], []), (B, [C], []))
        self.assertEqual(self.told(filled, [B], []), [C])
        self.assertEqual(self.told(filled, [B], [C]), [])

    def test_a_head_that_was_told_no_enters_nothing(self):
        filled = rows((A, [], []), (B, [A], []))
        self.assertEqual(self.told(filled, [], [A]), [B])

    def test_the_order_is_that_of_tuples_and_texts(self):
        facts = [("b",), ("a", "z"), ("a", "1"), ("aa",), ("a",), ("a", "a", "a"), ("a", "a")]
        filled = rows((("c",), facts, facts[::-1]))
        order = [("a",), ("a", "1"), ("a", "a"), ("a", "a", "a"), ("a", "z"), ("aa",), ("b",), ("c",)]
        self.assertEqual(self.told(filled, [], []), order)

    def test_any_order_and_any_numbers(self):
        filled = [(9, A, (B,), ()), (-1, B, (C,), ()), (9, C, (), (D,)), (3, E, (E,), ())]
        for some in itertools.permutations(filled):
            self.assertEqual(self.told(list(some), [], []), [D, E])
            self.assertEqual(self.told(list(some), [D], []), [A, B, C, E])

    def test_a_long_chain_from_its_end(self):
        facts = [("f", f"{number:04d}") for number in range(2500)]
        chain = rows(*[(head, [fact], []) for fact, head in zip(facts, facts[1:])])
        self.assertEqual(self.told(chain[::-1], [], []), facts)
        self.assertEqual(self.told(chain[::-1], facts[:1], []), [])

    def test_small_filled_rules(self):
        for number in range(1500):
            with self.subTest(number=number):
                filled, told, refuted = some_filled(number)
                self.assertEqual(self.told(filled, told, refuted), self.greatest(filled, told, refuted))

    def test_lists_are_new(self):
        filled = rows((A, [B], []))
        kept_out(filled, [], []).clear()
        self.assertEqual(kept_out(filled, [], []), [A, B])


class DecidedTest(unittest.TestCase):

    def verdict(self, given, rules):
        before = copy.deepcopy((given, rules))
        verdict = decided(given, rules)
        self.assertEqual((given, rules), before)
        self.assertIs(verdict.__class__, Verdict)
        return verdict

    def facts_by_answer(self, given, rules):
        verdict = self.verdict(given, rules)
        facts = facts_in(verdict.filled) | set(given)
        found = {"yes": [], "no": [], "open": []}
        for fact in sorted(facts):
            found[verdict.said(fact)].append(fact)
        return found

    def one_no_step_holds(self, facts, filled, yes, no):
        self.assertIs(facts.__class__, list)
        self.assertGreater(len(facts), 0)
        self.assertEqual(facts, sorted(set(facts)))
        self.assertFalse(set(facts) & (yes | no))
        for _, head, yeses, nots in filled:
            if head in facts:
                self.assertTrue(set(yeses) & (no | set(facts)) or set(nots) & yes)

    def story_holds(self, given, verdict):
        """Goes through the story by the rows of point 9; tells what was told yes and no."""
        yes, no = set(), set()
        self.assertIs(verdict.story.__class__, list)
        for step in verdict.story:
            self.assertIs(step.__class__, tuple)
            if step[0] == "no":
                _, facts = step
                self.one_no_step_holds(facts, verdict.filled, yes, no)
                no |= set(facts)
                continue
            word, fact, place = step
            self.assertEqual(word, "yes")
            self.assertNotIn(fact, yes | no)
            if place == -1:
                self.assertIn(fact, given)
            else:
                self.assertNotIn(fact, given)
                self.assertGreaterEqual(place, 0)
                _, head, yeses, nots = verdict.filled[place]
                self.assertEqual(fact, head)
                self.assertLessEqual(set(yeses), yes)
                self.assertLessEqual(set(nots), no)
            yes.add(fact)
        return yes, no

    def test_the_programs(self):
        for name, (given, rules) in all_programs():
            with self.subTest(name=name):
                verdict = self.verdict(given, rules)
                self.assertEqual(verdict.filled, filled_rules(given, rules))
                yes, no = self.story_holds(given, verdict)
                answers = worked_out(given, rules)
                rest = sorted(set(answers) - yes - no)
                self.assertIs(verdict.left.__class__, list)
                self.assertEqual(verdict.left, rest)
                self.assertLessEqual(yes | no, set(answers))
                for fact, answer in answers.items():
                    self.assertEqual(verdict.said(fact), answer)
                    self.assertEqual(answer == "yes", fact in yes)
                    self.assertEqual(answer == "no", fact in no)

    def test_nothing(self):
        verdict = self.verdict([], [])
        self.assertEqual((verdict.filled, verdict.story, verdict.left), ([], [], []))
        self.assertEqual(verdict.said(A), "no")

    def test_facts_alone(self):
        verdict = self.verdict([B, A], [])
        self.assertEqual(sorted(verdict.story), [("yes", A, -1), ("yes", B, -1)])
        self.assertEqual((verdict.filled, verdict.left), ([], []))
        self.assertEqual([verdict.said(fact) for fact in [A, B, C]], ["yes", "yes", "no"])

    def test_facts_that_stand_nowhere_are_no(self):
        for name, (given, rules) in PROGRAMS.items():
            with self.subTest(name=name):
                verdict = self.verdict(given, rules)
                for fact in [("none",), ("win", "none"), ("rain", "a"), ("p", "a"), ("move",)]:
                    self.assertEqual(verdict.said(fact), "no")
                    self.assertFalse(any(fact in step for step in verdict.story))

    def test_a_given_fact_that_stands_twice_is_told_once(self):
        verdict = self.verdict([A, B, A, A], [])
        self.assertEqual(sorted(verdict.story), [("yes", A, -1), ("yes", B, -1)])

    def test_a_given_fact_that_is_a_head_is_told_as_given(self):
        verdict = self.verdict([A, B], [(B, (A,), ()), (A, (), ())])
        self.assertEqual(sorted(verdict.story), [("yes", A, -1), ("yes", B, -1)])

    def test_a_chain(self):
        rules = [(D, (C,), ()), (C, (B,), ()), (B, (A,), ())]
        story = [("yes", A, -1), ("yes", B, 2), ("yes", C, 1), ("yes", D, 0)]
        self.assertEqual(self.verdict([A], rules).story, story)
        self.assertEqual(self.verdict([], rules).story, [("no", [A, B, C, D])])

    def test_a_chain_of_nots(self):
        given, rules = PROGRAMS["a chain of nots"]
        verdict = self.verdict(given, rules)
        self.assertEqual(verdict.story, [("no", [D]), ("yes", C, 2), ("no", [B]), ("yes", A, 0)])
        self.assertEqual(verdict.left, [])

    def test_a_ring_of_yeses_is_no(self):
        rules = [(A, (B,), ()), (B, (A,), ()), (C, (), (A,))]
        verdict = self.verdict([], rules)
        self.assertEqual(verdict.story, [("no", [A, B]), ("yes", C, 2)])

    def test_a_ring_through_a_not_is_open(self):
        verdict = self.verdict([], [(A, (), (B,)), (B, (), (A,)), (C, (D,), ())])
        self.assertEqual(verdict.story, [("no", [C, D])])
        self.assertEqual(verdict.left, [A, B])
        self.assertEqual([verdict.said(fact) for fact in [A, B, C]], ["open", "open", "no"])

    def test_what_hangs_on_an_open_fact_is_open(self):
        rules = [(E, (), (E,)), (A, (E,), ()), (B, (), (A,)), (C, (A, B), ()), (D, (), (D,)), (D, (), ())]
        verdict = self.verdict([], rules)
        self.assertEqual(verdict.left, [A, B, C, E])
        self.assertEqual(verdict.story, [("yes", D, 5)])

    def test_a_ring_that_a_given_fact_ends(self):
        verdict = self.verdict([B], [(A, (), (B,)), (B, (), (A,))])
        self.assertEqual(verdict.story, [("yes", B, -1), ("no", [A])])

    def test_a_game_without_a_way_back(self):
        found = self.facts_by_answer(moves("ab bc cd ac"), [GAME])
        self.assertEqual([fact for fact in found["yes"] if fact[0] == "win"], [("win", "a"), ("win", "c")])
        self.assertEqual([fact for fact in found["no"] if fact[0] == "win"], [("win", "b"), ("win", "d")])
        self.assertEqual(found["open"], [])

    def test_a_game_around(self):
        found = self.facts_by_answer(moves("ab ba bc cd"), [GAME])
        self.assertEqual([fact for fact in found["yes"] if fact[0] == "win"], [("win", "c")])
        self.assertEqual([fact for fact in found["no"] if fact[0] == "win"], [("win", "d")])
        self.assertEqual(found["open"], [("win", "a"), ("win", "b")])

    def test_a_game_with_a_way_out(self):
        found = self.facts_by_answer(moves("ab ba bc"), [GAME])
        self.assertEqual([fact for fact in found["yes"] if fact[0] == "win"], [("win", "b")])
        self.assertEqual([fact for fact in found["no"] if fact[0] == "win"], [("win", "a"), ("win", "c")])
        self.assertEqual(found["open"], [])

    def test_places_are_those_in_filled(self):
        verdict = self.verdict(moves("ab bc"), [(("end",), (("win", "?x"),), ()), GAME])
        steps = [step for step in verdict.story if step[0] == "yes" and step[2] != -1]
        self.assertEqual(sorted(step[1] for step in steps), [("end",), ("win", "b")])
        for _, fact, place in steps:
            self.assertEqual(verdict.filled[place][1], fact)
        self.assertIn(1, [place for _, _, place in steps])

    def test_another_order_says_the_same(self):
        for name, (given, rules) in all_programs():
            with self.subTest(name=name):
                found = self.facts_by_answer(given, rules)
                self.assertEqual(self.facts_by_answer(given[::-1], rules[::-1]), found)
                self.assertEqual(self.facts_by_answer(given + given, rules + rules), found)

    def test_as_many_filled_rules_as_may_be(self):
        things = "abcdefgh"
        given = moves("ab bc cd de ef fg gh ha ac")
        given += [("dom", thing) for thing in things]
        rules = [(("far", "?x", "?y", "?z"), (("dom", "?x"), ("dom", "?y"), ("dom", "?z")), (("near", "?x", "?y"),))]
        rules += [(("near", "?x", "?z"), (("near", "?x", "?y"), ("move", "?y", "?z")), ())]
        rules += [(("way", "?x", "?z"), (("way", "?x", "?y"), ("move", "?y", "?z")), (("shut", "?z"),))]
        rules += [(("near", "?x", "?y"), (("move", "?x", "?y"),), (("near", "?y", "?x"),)), GAME]
        rules += [(("way", "?x", "?y"), (("move", "?x", "?y"),), ())]
        rules += [(("shut", "?x"), (("dom", "?x"),), (("way", "?x", "?x"),))]
        verdict = self.verdict(given, rules)
        self.assertEqual(len(verdict.filled), 3 * 512 + 3 * 64 + 8)
        self.story_holds(given, verdict)
        for fact, answer in worked_out(given, rules).items():
            self.assertEqual(verdict.said(fact), answer)

    def test_it_refuses_as_check(self):
        for given, rules, kind in [
            ([("p",)] * 61, [], TooMany),
            ([], [(A, (), ())] * 21, TooMany),
            ([("P",)], [], BadFact),
            ([("p", "?x")], [(("P",), (), ())], BadFact),
            ([], [(("p", "?"), (), ())], BadRule),
            ([], [(A, (B,) * 7, ())], BadRule),
            ([], [(("p", "?x"), (), ())], LooseSlot),
            ([], [(A, (("q", "?a", "?b", "?c"), ("q", "?d")), ())], TooMany),
            ([("t", str(number)) for number in range(9)], [], TooMany),
            ([("t", str(number)) for number in range(8)], [(A, (("q", "?a", "?b", "?c"),), ())] * 4, TooMany),
        ]:
            with self.subTest(given=given, rules=rules):
                before = copy.deepcopy((given, rules))
                with self.assertRaises(ValueError) as caught:
                    decided(given, rules)
                self.assertIs(caught.exception.__class__, kind)
                self.assertEqual((given, rules), before)

    def test_what_is_done_later_to_what_was_handed_in_changes_nothing(self):
        given, rules = [A, *moves("ab ba")], [GAME, (B, (A,), ())]
        verdict = decided(given, rules)
        before = copy.deepcopy((verdict.filled, verdict.story, verdict.left))
        said = [verdict.said(fact) for fact in [A, B, ("win", "a"), ("move", "a", "a")]]
        self.assertEqual(said, ["yes", "yes", "open", "no"])
        given.clear()
        rules.clear()
        given.append(("win", "a"))
        rules.append((C, (), ()))
        self.assertEqual((verdict.filled, verdict.story, verdict.left), before)
        self.assertEqual([verdict.said(fact) for fact in [A, B, ("win", "a"), ("move", "a", "a")]], said)
        self.assertEqual(verdict.said(C), "no")

    def test_two_verdicts_share_nothing(self):
        given, rules = [A, *moves("ab ba")], [GAME, (B, (A,), ())]
        one, other = decided(given, rules), decided(given, rules)
        before = copy.deepcopy((other.filled, other.story, other.left))
        for step in one.story:
            if step[0] == "no":
                step[1].clear()
        one.filled.clear()
        one.story.clear()
        one.left.clear()
        self.assertEqual((other.filled, other.story, other.left), before)
        again = decided(given, rules)
        self.assertEqual((again.filled, again.story, again.left), before)
        self.assertEqual(other.said(("win", "a")), "open")

    def test_saying_changes_nothing(self):
        verdict = decided([A], [(B, (), (B,))])
        before = copy.deepcopy((verdict.filled, verdict.story, verdict.left))
        for _ in range(2):
            self.assertEqual([verdict.said(fact) for fact in [A, B, C]], ["yes", "open", "no"])
        self.assertEqual((verdict.filled, verdict.story, verdict.left), before)


if __name__ == "__main__":
    unittest.main()
