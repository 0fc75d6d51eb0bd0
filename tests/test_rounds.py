"""Points 1, 9 to 12: rounds, the facts that they give, and the reasons of these."""

import copy
import inspect
import itertools
import random
import unittest

from factloom.bodies import check_rule, ways
from factloom.errors import BadGuard, LoomError, LooseBlank
from factloom.rounds import next_reasons, reasons, rounds
from helper import FAR, POOL, ROADS, STEP, facts_of, one_round_by_trying_all, rounds_by_trying_all
from helper import small_rule_sets, unsound_sets_of_rules


class Interface(unittest.TestCase):
    def test_argument_names(self):
        self.assertEqual(list(inspect.signature(next_reasons).parameters), ["rules", "facts"])
        self.assertEqual(list(inspect.signature(rounds).parameters), ["rules"])
        self.assertEqual(list(inspect.signature(reasons).parameters), ["rules"])


class NextReasons(unittest.TestCase):
    def check(self, rules, facts, expected):
        before = copy.deepcopy((rules, facts))
        answer = next_reasons(rules, facts)
        self.assertEqual(answer, expected)
        self.assertEqual((rules, facts), before)
        self.assertIs(type(answer), list)
        for reason in answer:
            self.assertEqual([type(part) for part in (reason,) + reason], [tuple, tuple, int, tuple])

    def test_no_rules_and_no_facts(self):
        self.check([], [], [])
        self.check([], [("rain",)], [])
        self.check([STEP], [], [])

    def test_empty_body(self):
        self.check([(("rain",), ()), (("at", 3), ())], [], [(("rain",), 0, ()), (("at", 3), 1, ())])
        self.check([(("rain",), ()), (("at", 3), ())], [("rain",)], [(("at", 3), 1, ())])

    def test_guards_alone(self):
        rules = [
            (("p", 1), (("less", 2, 1),)),
            (("p", 2), (("less", 1, 2), ("unlike", "elm", "oak"))),
            (("p", 3), (("less", 1, 2), ("unlike", "elm", "elm"))),
        ]
        self.check(rules, [], [(("p", 2), 1, ())])
        self.check(rules, [("snow",)], [(("p", 2), 1, ())])
        self.check(rules, [("snow",), ("p", 2)], [])

    def test_facts_that_do_not_come_of_the_rules(self):
        self.check(
            [STEP, FAR],
            [("way", "b", "c"), ("road", "a", "b"), ("fog",), ("road", "z", 7)],
            [(("way", "a", "b"), 0, (1,)), (("way", "z", 7), 0, (3,)), (("way", "a", "c"), 1, (1, 0))],
        )

    def test_places_are_those_in_the_facts_handed_in(self):
        rule = (("q", "Y", "X"), (("p", "X"), ("r", "Y")))
        self.check([rule], [("r", 5), ("s",), ("p", 6)], [(("q", 5, 6), 0, (2, 0))])

    def test_fact_given_by_two_rules_has_the_first_one(self):
        facts = [("dew",), ("fog",)]
        self.check([(("wet",), (("fog",),)), (("wet",), (("dew",),))], facts, [(("wet",), 0, (1,))])
        self.check([(("wet",), (("dew",),)), (("wet",), (("fog",),))], facts, [(("wet",), 0, (0,))])
        self.check([(("wet",), (("sun",),)), (("wet",), (("fog",),))], facts, [(("wet",), 1, (1,))])

    def test_fact_given_by_two_ways_of_a_rule_has_the_first_one(self):
        facts = [("q", 4), ("p", 9), ("p", 2), ("q", 1)]
        self.check([(("some",), (("p", "X"),))], facts, [(("some",), 0, (1,))])
        self.check([(("some",), (("p", "X"), ("q", "Y"), ("less", "Y", "X")))], facts, [(("some",), 0, (1, 0))])
        self.check([(("some",), (("p", "X"), ("q", "Y"), ("less", "X", "Y")))], facts, [(("some",), 0, (2, 0))])

    def test_first_way_is_told_by_its_places_in_the_order_of_the_askers(self):
        facts = [("p", 1), ("p", 2), ("q", 2), ("q", 1)]
        self.check([(("some",), (("p", "X"), ("q", "X")))], facts, [(("some",), 0, (0, 3))])
        self.check([(("some",), (("q", "X"), ("p", "X")))], facts, [(("some",), 0, (2, 1))])

    def test_no_fact_twice_and_none_that_is_told(self):
        rules = [(("p", "X"), (("q", "X", "Y"),)), (("p", "Y"), (("q", "X", "Y"),))]
        facts = [("q", 1, 2), ("p", 1), ("q", 2, 1), ("q", 1, 3)]
        self.check(rules, facts, [(("p", 2), 0, (2,)), (("p", 3), 1, (3,))])

    def test_facts_of_this_round_are_not_rested_on(self):
        rules = [(("a",), ()), (("b",), (("a",),)), (("c",), (("b",),))]
        self.check(rules, [], [(("a",), 0, ())])
        self.check(rules, [("a",)], [(("b",), 1, (0,))])
        self.check(rules, [("b",)], [(("a",), 0, ()), (("c",), 2, (0,))])

    def test_order_by_rules_and_then_by_ways(self):
        facts = [("p", 3), ("q", "b"), ("p", 1), ("q", "a")]
        rules = [(("z", "Y"), (("q", "Y"),)), (("a", "X", "Y"), (("p", "X"), ("q", "Y"))), (("m", "X"), (("p", "X"),))]
        self.check(
            rules,
            facts,
            [
                (("z", "b"), 0, (1,)),
                (("z", "a"), 0, (3,)),
                (("a", 3, "b"), 1, (0, 1)),
                (("a", 3, "a"), 1, (0, 3)),
                (("a", 1, "b"), 1, (2, 1)),
                (("a", 1, "a"), 1, (2, 3)),
                (("m", 3), 2, (0,)),
                (("m", 1), 2, (2,)),
            ],
        )

    def test_rule_that_stands_twice(self):
        rule = (("p", "X"), (("q", "X"),))
        self.check([rule, rule], [("q", 1), ("q", 2)], [(("p", 1), 0, (0,)), (("p", 2), 0, (1,))])

    def test_same_relation_with_another_count_of_parts(self):
        self.check([(("p", "X", "X"), (("p", "X"),))], [("p", 1), ("p",)], [(("p", 1, 1), 0, (0,))])

    def test_hundreds_of_rules_and_facts_and_large_numbers(self):
        large = 10 ** 99
        rules = [(("p", number, "X"), (("q", "X"), ("less", large, "X"))) for number in range(520)]
        facts = [("q", large + number) for number in range(520)]
        answer = next_reasons(rules[:2], facts)
        self.assertEqual(len(answer), 2 * 519)
        self.assertEqual(answer[518:520], [(("p", 0, large + 519), 0, (519,)), (("p", 1, large + 1), 1, (1,))])
        last = next_reasons(rules, facts[:2])
        self.assertEqual(last, [(("p", number, large + 1), number, (1,)) for number in range(520)])

    def test_fact_with_very_many_ways(self):
        blanks = ["B" + "b" * place for place in range(30)]
        body = tuple(("p", blank) for blank in blanks)
        self.check([(("some",), body)], [("p", number) for number in range(500)], [(("some",), 0, (0,) * 30)])


class Rounds(unittest.TestCase):
    """What rounds and reasons tell of the same rules."""

    def check(self, rules, expected):
        """`expected`: the reasons, round by round."""
        before = copy.deepcopy(rules)
        by_round = rounds(rules)
        every = reasons(rules)
        self.assertEqual(by_round, [facts_of(found) for found in expected])
        self.assertEqual(every, [reason for found in expected for reason in found])
        self.assertEqual(rules, before)
        self.assertEqual([type(part) for part in [every, by_round] + by_round], [list] * (2 + len(by_round)))
        for reason in every:
            self.assertEqual([type(part) for part in (reason,) + reason], [tuple, tuple, int, tuple])

    def test_no_rules(self):
        self.check([], [])

    def test_rules_that_give_nothing(self):
        self.check([STEP, FAR], [])
        self.check([(("p",), (("p",),)), (("q", 1), (("less", 2, 1),))], [])

    def test_plain_facts_in_their_order(self):
        self.check(
            [(("b",), ()), (("a", 2), ()), (("a", 1), ())],
            [[(("b",), 0, ()), (("a", 2), 1, ()), (("a", 1), 2, ())]],
        )

    def test_way_over_roads(self):
        self.check(
            ROADS + [STEP, FAR],
            [
                [(("road", "elm", "oak"), 0, ()), (("road", "oak", "ash"), 1, ()), (("road", "ash", "fir"), 2, ())],
                [(("way", "elm", "oak"), 3, (0,)), (("way", "oak", "ash"), 3, (1,)), (("way", "ash", "fir"), 3, (2,))],
                [(("way", "elm", "ash"), 4, (0, 4)), (("way", "oak", "fir"), 4, (1, 5))],
                [(("way", "elm", "fir"), 4, (0, 7))],
            ],
        )

    def test_rules_ahead_of_what_they_rest_on(self):
        self.check(
            [FAR, STEP] + list(reversed(ROADS)),
            [
                [(("road", "ash", "fir"), 2, ()), (("road", "oak", "ash"), 3, ()), (("road", "elm", "oak"), 4, ())],
                [(("way", "ash", "fir"), 1, (0,)), (("way", "oak", "ash"), 1, (1,)), (("way", "elm", "oak"), 1, (2,))],
                [(("way", "oak", "fir"), 0, (1, 3)), (("way", "elm", "ash"), 0, (2, 4))],
                [(("way", "elm", "fir"), 0, (2, 6))],
            ],
        )

    def test_round_with_guards_alone_is_the_first(self):
        self.check(
            [(("b",), (("a",),)), (("a",), (("less", -1, 0),))],
            [[(("a",), 1, ())], [(("b",), 0, (0,))]],
        )

    def test_fact_that_could_come_in_two_rounds_comes_in_the_earlier(self):
        self.check(
            [(("c",), (("b",),)), (("b",), (("a",),)), (("a",), ()), (("c",), (("a",),))],
            [[(("a",), 2, ())], [(("b",), 1, (0,)), (("c",), 3, (0,))]],
        )
        self.check(
            [(("a",), (("b",),)), (("a",), ()), (("b",), (("a",),))],
            [[(("a",), 1, ())], [(("b",), 2, (0,))]],
        )

    def test_first_rule_of_its_round_gives_the_reason(self):
        self.check(
            [(("wet",), (("fog",),)), (("wet",), (("dew",),)), (("dew",), ()), (("fog",), ())],
            [[(("dew",), 2, ()), (("fog",), 3, ())], [(("wet",), 0, (1,))]],
        )

    def test_first_way_among_those_with_a_fact_of_the_round_ahead(self):
        # seen(1) has ways by (old, new), (new, old) and (new, new) facts in the third round, and none ahead of it.
        self.check(
            [
                (("p", 1), ()),
                (("go",), ()),
                (("p", 2), (("go",),)),
                (("p", 3), (("go",),)),
                (("seen", 1), (("p", "X"), ("p", "Y"), ("unlike", "X", "Y"))),
            ],
            [
                [(("p", 1), 0, ()), (("go",), 1, ())],
                [(("p", 2), 2, (1,)), (("p", 3), 3, (1,))],
                [(("seen", 1), 4, (0, 2))],
            ],
        )

    def test_rules_that_lead_back_to_themselves(self):
        self.check(
            [(("p", "X"), (("p", "X"),)), (("p", 1), ()), (("q", "X"), (("p", "X"),)), (("p", "X"), (("q", "X"),))],
            [[(("p", 1), 1, ())], [(("q", 1), 2, (0,))]],
        )
        self.check(
            [
                (("on", 1, 2), ()),
                (("on", 2, 1), ()),
                (("on", "X", "Z"), (("on", "X", "Y"), ("on", "Y", "Z"))),
            ],
            [
                [(("on", 1, 2), 0, ()), (("on", 2, 1), 1, ())],
                [(("on", 1, 1), 2, (0, 1)), (("on", 2, 2), 2, (1, 0))],
            ],
        )

    def test_rule_that_stands_twice(self):
        self.check(
            [(("p", 1), ()), (("p", 1), ()), (("q", "X"), (("p", "X"),)), (("q", "X"), (("p", "X"),))],
            [[(("p", 1), 0, ())], [(("q", 1), 2, (0,))]],
        )

    def test_same_fact_for_two_askers(self):
        self.check(
            [(("p", 1), ()), (("q", "X", "Y"), (("p", "X"), ("p", "Y")))],
            [[(("p", 1), 0, ())], [(("q", 1, 1), 1, (0, 0))]],
        )

    def test_number_and_word_and_sign_are_told_apart(self):
        self.check(
            [(("p", 1), ()), (("p", -1), ()), (("p", "one"), ()), (("q",), (("p", -1),))],
            [[(("p", 1), 0, ()), (("p", -1), 1, ()), (("p", "one"), 2, ())], [(("q",), 3, (1,))]],
        )

    def test_words_if_and_and_are_plain_relations(self):
        self.check([(("if",), ()), (("and", "X"), (("if",), ("if", "X"))), (("if", 1), ())],
                   [[(("if",), 0, ()), (("if", 1), 2, ())], [(("and", 1), 1, (0, 1))]])


class ManyRounds(unittest.TestCase):
    def test_a_rule_for_each_of_some_hundred_rounds(self):
        count = 500
        rules = [(("at", number), (("at", number - 1),)) for number in range(1, count)] + [(("at", 0), ())]
        self.assertEqual(rounds(rules), [[("at", number)] for number in range(count)])
        expected = [(("at", 0), count - 1, ())]
        expected += [(("at", number), number - 1, (number - 1,)) for number in range(1, count)]
        self.assertEqual(reasons(rules), expected)

    def test_one_rule_for_some_hundred_rounds(self):
        count = 510
        steps = [(("step", number, number + 1), ()) for number in range(count)]
        for body in itertools.permutations([("at", "X"), ("step", "X", "Y")]):
            rules = steps + [(("at", 0), ()), (("at", "Y"), body)]
            by_round = rounds(rules)
            self.assertEqual(by_round[0], [head for head, empty in steps] + [("at", 0)])
            self.assertEqual(by_round[1:], [[("at", number)] for number in range(1, count + 1)])

    def test_many_facts_in_many_rounds(self):
        count = 150
        roads = [(("road", number, number + 1), ()) for number in range(count)]
        bodies = [(("road", "X", "Y"), ("way", "Y", "Z")), (("way", "X", "Y"), ("road", "Y", "Z"))]
        for body in bodies:
            by_round = rounds(roads + [STEP, (("way", "X", "Z"), body)])
            self.assertEqual(len(by_round), count + 1)
            for length, facts in enumerate(by_round[1:], start=1):
                self.assertEqual(facts, [("way", first, first + length) for first in range(count + 1 - length)])

    def test_large_numbers(self):
        large = 10 ** 100 - 1
        rules = [
            (("at", -large), ()),
            (("at", large), ()),
            (("least", "X"), (("at", "X"), ("at", "Y"), ("less", "X", "Y"))),
        ]
        self.assertEqual(rounds(rules), [[("at", -large), ("at", large)], [("least", -large)]])

    def test_body_of_hundreds_of_atoms(self):
        blanks = ["B" + "b" * place for place in range(521)]
        body = tuple(("step", blanks[place], blanks[place + 1]) for place in range(520))
        rules = [(("end", "B", blanks[-1]), body), (("step", 1, 2), ()), (("step", 2, 1), ())]
        expected = [(("end", 1, 1), 0, (0, 1) * 260), (("end", 2, 2), 0, (1, 0) * 260)]
        self.assertEqual(reasons(rules)[2:], expected)


class Refusals(unittest.TestCase):
    def test_refused_by_the_first_unsound_rule(self):
        for asked_for in (rounds, reasons):
            for rules, refusal in unsound_sets_of_rules():
                before = copy.deepcopy(rules)
                with self.subTest(rules=rules), self.assertRaises(LoomError) as caught:
                    asked_for(rules)
                self.assertIs(type(caught.exception), refusal)
                self.assertEqual(rules, before)

    def test_refused_though_the_rule_would_never_be_used(self):
        for asked_for in (rounds, reasons):
            with self.assertRaises(LooseBlank):
                asked_for([(("p", "X"), (("never",), ("less", "X", 1)))])
            with self.assertRaises(BadGuard):
                asked_for([(("p",), (("never",), ("unlike",)))])


class ManySmallSetsOfRules(unittest.TestCase):
    def test_reasons_are_those_of_the_definition(self):
        deepest = 0
        for rules in small_rule_sets():
            expected = rounds_by_trying_all(rules)
            deepest = max(deepest, len(expected))
            if reasons(rules) != [reason for found in expected for reason in found]:
                self.fail(f"not the reasons of {rules!r}")
            if rounds(rules) != [facts_of(found) for found in expected]:
                self.fail(f"not the rounds of {rules!r}")
        self.assertGreater(deepest, 5)

    def test_next_reasons_are_those_of_the_definition(self):
        facts = [("p", 2, 1), ("q", 2), ("p", 1, 1), ("p", "a", 2), ("r",), ("q", "a"), ("p", 1, 2), ("s", 2, 2)]
        chosen = random.Random(21)
        for rules in small_rule_sets():
            told = chosen.sample(facts, chosen.randint(0, len(facts)))
            if next_reasons(rules, told) != one_round_by_trying_all(rules, told):
                self.fail(f"not the next reasons of {rules!r} over {told!r}")

    def test_each_round_is_that_of_next_reasons(self):
        for rules in small_rule_sets():
            facts = []
            every = reasons(rules)
            for given in rounds(rules):
                latest = next_reasons(rules, facts)
                self.assertEqual(latest, every[len(facts):len(facts) + len(given)])
                facts += given
            self.assertEqual(next_reasons(rules, facts), [])

    def test_a_reason_rests_on_facts_of_earlier_rounds_and_is_a_way(self):
        for rules in small_rule_sets():
            every = reasons(rules)
            facts = facts_of(every)
            self.assertEqual(len(set(facts)), len(facts))
            round_of = [number for number, given in enumerate(rounds(rules)) for fact in given]
            for own, (fact, rule, places) in enumerate(every):
                self.assertTrue(all(round_of[place] < round_of[own] for place in places))
                settings = [setting for setting, found in ways(facts, rules[rule][1]) if found == places]
                self.assertEqual(len(settings), 1)
                given = dict(settings[0])
                self.assertEqual(tuple(given.get(part, part) for part in rules[rule][0]), fact)

    def test_order_and_repeats_of_the_rules_change_no_round(self):
        chosen = random.Random(22)
        for rules in small_rule_sets():
            expected = [sorted(facts, key=repr) for facts in rounds(rules)]
            others = chosen.sample(rules, len(rules)) + rules[:2]
            self.assertEqual([sorted(facts, key=repr) for facts in rounds(others)], expected)

    def test_all_rules_of_the_pool_are_sound(self):
        self.assertEqual([check_rule(rule) for rule in POOL], [None] * len(POOL))


if __name__ == "__main__":
    unittest.main()
