"""Points 1, 13, 14: the grounds of a fact, and the answers to a body."""

import copy
import inspect
import unittest

from factloom.asking import asked, grounds
from factloom.errors import BadGuard, LoomError, LooseBlank, NotTold
from factloom.rounds import reasons
from helper import FAR, ROADS, STEP, facts_of, grounds_by_going_back, small_rule_sets, things_in
from helper import unsound_sets_of_rules, ways_by_trying_all

WAYS = ROADS + [STEP, FAR]


class Interface(unittest.TestCase):
    def test_argument_names(self):
        self.assertEqual(list(inspect.signature(grounds).parameters), ["rules", "fact"])
        self.assertEqual(list(inspect.signature(asked).parameters), ["rules", "body"])


class Grounds(unittest.TestCase):
    def check(self, rules, fact, expected):
        before = copy.deepcopy((rules, fact))
        answer = grounds(rules, fact)
        self.assertEqual(answer, expected)
        self.assertEqual((rules, fact), before)
        self.assertIs(type(answer), list)
        for reason in answer:
            self.assertEqual([type(part) for part in (reason,) + reason], [tuple, tuple, int, tuple])

    def check_refused(self, refusal, rules, fact):
        before = copy.deepcopy((rules, fact))
        with self.assertRaises(LoomError) as caught:
            grounds(rules, fact)
        self.assertIs(type(caught.exception), refusal)
        self.assertEqual((rules, fact), before)

    def test_fact_of_the_first_round(self):
        self.check(WAYS, ("road", "elm", "oak"), [(("road", "elm", "oak"), 0, ())])
        self.check(WAYS, ("road", "ash", "fir"), [(("road", "ash", "fir"), 2, ())])

    def test_places_are_counted_in_the_list_given_back(self):
        self.check(WAYS, ("way", "ash", "fir"), [(("road", "ash", "fir"), 2, ()), (("way", "ash", "fir"), 3, (0,))])
        self.check(
            WAYS,
            ("way", "oak", "fir"),
            [
                (("road", "oak", "ash"), 1, ()),
                (("road", "ash", "fir"), 2, ()),
                (("way", "ash", "fir"), 3, (1,)),
                (("way", "oak", "fir"), 4, (0, 2)),
            ],
        )

    def test_places_of_the_rules_stay(self):
        rules = [(("fog",), ()), (("a",), ()), (("sun",), (("fog",),)), (("b",), (("a",),))]
        self.check(rules, ("b",), [(("a",), 1, ()), (("b",), 3, (0,))])

    def test_facts_behind_it_and_beside_it_are_left_out(self):
        rules = [(("a",), ()), (("x",), ()), (("b",), (("a",),)), (("y",), (("x",),)), (("c",), (("b",),))]
        self.check(rules, ("b",), [(("a",), 0, ()), (("b",), 2, (0,))])
        self.check(rules, ("y",), [(("x",), 1, ()), (("y",), 3, (0,))])

    def test_fact_that_rests_on_the_same_fact_twice(self):
        rules = [(("fog",), ()), (("p", 1), ()), (("q",), (("p", "X"), ("p", "Y")))]
        self.check(rules, ("q",), [(("p", 1), 1, ()), (("q",), 2, (0, 0))])

    def test_fact_that_rests_on_the_same_fact_by_two_ways(self):
        rules = [
            (("x",), ()),
            (("a",), ()),
            (("d",), (("c",), ("a",), ("b",))),
            (("b",), (("a",),)),
            (("c",), (("a",),)),
        ]
        self.check(
            rules,
            ("d",),
            [(("a",), 1, ()), (("b",), 3, (0,)), (("c",), 4, (0,)), (("d",), 2, (2, 0, 1))],
        )

    def test_order_is_that_of_the_rounds_though_the_askers_stand_otherwise(self):
        rules = [(("c",), (("b",), ("a",))), (("a",), ()), (("z",), ()), (("b",), (("z",),))]
        self.check(rules, ("c",), [(("a",), 1, ()), (("z",), 2, ()), (("b",), 3, (1,)), (("c",), 0, (2, 0))])

    def test_only_the_reason_counts_not_the_other_ways(self):
        rules = [(("dew",), ()), (("fog",), ()), (("wet",), (("fog",),)), (("wet",), (("dew",),))]
        self.check(rules, ("wet",), [(("fog",), 1, ()), (("wet",), 2, (0,))])

    def test_fact_that_is_not_told(self):
        self.check_refused(NotTold, WAYS, ("way", "oak", "elm"))
        self.check_refused(NotTold, WAYS, ("way",))
        self.check_refused(NotTold, WAYS, ("road", "elm", 1))
        self.check_refused(NotTold, WAYS, ("snow",))
        self.check_refused(NotTold, [], ("rain",))
        self.check_refused(NotTold, [(("p", 1), (("p", 1),))], ("p", 1))
        self.check_refused(NotTold, [(("p", 1), ())], ("p", -1))

    def test_refusals_of_the_rules_go_ahead(self):
        for rules, refusal in unsound_sets_of_rules():
            with self.subTest(rules=rules):
                self.check_refused(refusal, rules, ("snow",))
                self.check_refused(refusal, rules, ("rain",))

    def test_some_hundred_rounds(self):
        count = 510
        rules = [(("fog",), ())] + [(("at", number), (("at", number - 1),)) for number in range(1, count)]
        rules += [(("at", 0), ())]
        expected = [(("at", 0), count, ())] + [(("at", n), n, (n - 1,)) for n in range(1, count)]
        self.check(rules, ("at", count - 1), expected)

    def test_large_numbers(self):
        large = 10 ** 100 - 1
        rules = [(("p", large - 1), ()), (("p", large), ()), (("q", "X"), (("p", "X"),))]
        self.check(rules, ("q", large), [(("p", large), 1, ()), (("q", large), 2, (0,))])

    def test_grounds_of_all_facts_of_many_small_sets_of_rules(self):
        for rules in small_rule_sets():
            every = reasons(rules)
            for fact in facts_of(every):
                if grounds(rules, fact) != grounds_by_going_back(every, fact):
                    self.fail(f"not the grounds of {fact!r} by {rules!r}")


class Asked(unittest.TestCase):
    def check(self, rules, body, expected):
        before = copy.deepcopy((rules, body))
        answer = asked(rules, body)
        self.assertEqual(answer, expected)
        self.assertEqual((rules, body), before)
        self.assertIs(type(answer), list)
        for setting in answer:
            self.assertIs(type(setting), list)
            self.assertTrue(all(type(pair) is tuple for pair in setting))

    def check_refused(self, refusal, rules, body):
        before = copy.deepcopy((rules, body))
        with self.assertRaises(LoomError) as caught:
            asked(rules, body)
        self.assertIs(type(caught.exception), refusal)
        self.assertEqual((rules, body), before)

    def test_no_answer(self):
        self.check(WAYS, (("way", "fir", "X"),), [])
        self.check(WAYS, (("snow",),), [])
        self.check(WAYS, (("way", "X", "X"),), [])
        self.check([], (("rain",),), [])

    def test_one_answer(self):
        self.check(WAYS, (("way", "oak", "X"), ("road", "X", "fir")), [[("X", "ash")]])
        self.check(WAYS, (("road", "X", "ash"),), [[("X", "oak")]])

    def test_answer_without_blanks(self):
        self.check(WAYS, (("way", "elm", "fir"),), [[]])
        self.check(WAYS, (("way", "elm", "fir"), ("road", "elm", "oak")), [[]])
        self.check(WAYS, (("way", "elm", "fir"), ("road", "oak", "elm")), [])

    def test_many_answers_in_the_order_of_the_ways(self):
        self.check(WAYS, (("way", "elm", "X"),), [[("X", "oak")], [("X", "ash")], [("X", "fir")]])
        rules = [(("p", 3), ()), (("p", 1), ()), (("p", 2), ()), (("p", 0), (("p", 1),))]
        self.check(rules, (("p", "X"),), [[("X", 3)], [("X", 1)], [("X", 2)], [("X", 0)]])
        self.check(
            rules,
            (("p", "B"), ("p", "A"), ("less", "A", "B")),
            [
                [("B", 3), ("A", 1)],
                [("B", 3), ("A", 2)],
                [("B", 3), ("A", 0)],
                [("B", 1), ("A", 0)],
                [("B", 2), ("A", 1)],
                [("B", 2), ("A", 0)],
            ],
        )

    def test_all_facts_told_are_asked_of_all_rounds(self):
        rules = [(("at", 0), ())] + [(("at", number + 1), (("at", number),)) for number in range(30)]
        self.check(rules, (("at", "X"), ("less", 27, "X")), [[("X", 28)], [("X", 29)], [("X", 30)]])

    def test_empty_body(self):
        self.check([], (), [[]])
        self.check(WAYS, (), [[]])

    def test_guards_alone(self):
        for rules in ([], WAYS):
            self.check(rules, (("less", 1, 2),), [[]])
            self.check(rules, (("unlike", "elm", "oak"), ("less", -1, 0)), [[]])
            self.check(rules, (("less", 2, 1),), [])
            self.check(rules, (("less", 1, 2), ("unlike", "elm", "elm")), [])

    def test_unsound_body(self):
        for rules in ([], WAYS):
            self.check_refused(BadGuard, rules, (("less", 1),))
            self.check_refused(BadGuard, rules, (("road", "X", "Y"), ("unlike", "X", "Y", "X")))
            self.check_refused(BadGuard, rules, (("unlike",),))
            self.check_refused(LooseBlank, rules, (("less", "X", 1),))
            self.check_refused(LooseBlank, rules, (("road", "X", "Y"), ("unlike", "X", "Z")))
            self.check_refused(LooseBlank, rules, (("unlike", "X", "X"), ("road", "Xa", "x")))

    def test_bad_guard_goes_ahead_of_loose_blank(self):
        self.check_refused(BadGuard, WAYS, (("less", "X", 1), ("less", 1)))
        self.check_refused(BadGuard, WAYS, (("less", "X"),))

    def test_body_is_refused_though_no_fact_is_asked_for(self):
        self.check_refused(LooseBlank, WAYS, (("snow",), ("less", "X", 1)))
        self.check_refused(BadGuard, WAYS, (("less", 2, 1), ("less", 1, 2, 3)))

    def test_refusals_of_the_rules_go_ahead(self):
        for rules, refusal in unsound_sets_of_rules():
            for body in ((), (("rain",),), (("less", 1),), (("less", "X", 1),)):
                with self.subTest(rules=rules, body=body):
                    self.check_refused(refusal, rules, body)

    def test_large_numbers_and_hundreds_of_rules(self):
        large = 10 ** 100
        rules = [(("p", large + number), ()) for number in range(520)]
        self.check(rules, (("p", "X"), ("less", large + 517, "X")), [[("X", large + 518)], [("X", large + 519)]])

    def test_body_of_hundreds_of_atoms(self):
        blanks = ["B" + "b" * place for place in range(521)]
        body = tuple(("step", blanks[place], blanks[place + 1]) for place in range(520))
        things = [place % 2 for place in range(521)]
        expected = [list(zip(blanks, things)), list(zip(blanks, [1 - thing for thing in things]))]
        self.check([(("step", 0, 1), ()), (("step", 1, 0), ())], body, expected)

    def test_answers_of_many_small_sets_of_rules(self):
        bodies = (
            (("p", "X", "Y"),),
            (("q", "Y"), ("p", "X", "Y"), ("unlike", "X", "Y")),
            (("less", "X", "Z"), ("p", "X", "Y"), ("p", "Y", "Z")),
            (("r",), ("q", 2)),
        )
        for rules in small_rule_sets():
            facts = facts_of(reasons(rules))
            for body in bodies:
                expected = [setting for setting, places in ways_by_trying_all(facts, body, things_in(facts))]
                if asked(rules, body) != expected:
                    self.fail(f"not the answers to {body!r} by {rules!r}")


if __name__ == "__main__":
    unittest.main()
