"""Points 1, 4 to 8: sound rules and the ways of a body."""

import copy
import inspect
import itertools
import unittest

from factloom.bodies import Loom, check_rule, ways
from factloom.errors import BadGuard, BadHead, LooseBlank
from helper import ways_by_trying_all


class Interface(unittest.TestCase):
    def test_argument_names(self):
        self.assertEqual(list(inspect.signature(check_rule).parameters), ["rule"])
        self.assertEqual(list(inspect.signature(ways).parameters), ["facts", "body"])


class SoundRules(unittest.TestCase):
    def check(self, head, *body):
        self.assertIsNone(check_rule((head, body)))

    def test_plain_fact(self):
        self.check(("rain",))
        self.check(("road", "elm", -2))

    def test_askers(self):
        self.check(("way", "X", "Z"), ("road", "X", "Y"), ("way", "Y", "Z"))

    def test_blanks_of_the_head_in_different_askers(self):
        self.check(("both", "X", "Y", "X"), ("p", "X"), ("q", "Y"))

    def test_body_with_blanks_that_the_head_has_not(self):
        self.check(("rain",), ("p", "X", "Y"))

    def test_guard_ahead_of_the_asker_that_has_its_blanks(self):
        self.check(("p", "X"), ("less", "X", "Y"), ("q", "X"), ("unlike", "Y", "oak"), ("q", "Y"))

    def test_guards_without_blanks_and_without_askers(self):
        self.check(("rain",), ("less", 2, 1), ("unlike", "elm", "elm"))

    def test_words_like_the_guards_as_parts(self):
        self.check(("p", "less", "unlike"), ("q", "less"))

    def test_relation_that_only_begins_like_a_guard(self):
        self.check(("lesser", 1), ("unlikely",), ("les", 1, 2, 3))


class UnsoundRules(unittest.TestCase):
    def check(self, refusal, head, *body):
        with self.assertRaises(refusal) as caught:
            check_rule((head, body))
        self.assertIs(type(caught.exception), refusal)

    def test_head_is_a_guard(self):
        self.check(BadHead, ("less", 1, 2))
        self.check(BadHead, ("unlike", "X", "Y"), ("p", "X", "Y"))

    def test_head_is_a_guard_whatever_its_count_of_parts(self):
        self.check(BadHead, ("less",))
        self.check(BadHead, ("unlike", 1))
        self.check(BadHead, ("less", 1, 2, 3))

    def test_bad_head_goes_ahead_of_bad_guard_and_loose_blank(self):
        self.check(BadHead, ("less", 1, 2), ("unlike", 1))
        self.check(BadHead, ("less", "X", 2), ("less", "Y", 1))
        self.check(BadHead, ("less", "X", 2), ("less", "Y"))

    def test_guard_with_fewer_parts(self):
        for relation in ("less", "unlike"):
            with self.subTest(relation):
                self.check(BadGuard, ("p",), (relation,))
                self.check(BadGuard, ("p", "X"), ("q", "X"), (relation, "X"))

    def test_guard_with_more_parts(self):
        for relation in ("less", "unlike"):
            with self.subTest(relation):
                self.check(BadGuard, ("p",), (relation, 1, 2, 3))
                self.check(BadGuard, ("p", "X"), (relation, "X", "X", "X", "X"), ("q", "X"))

    def test_bad_guard_goes_ahead_of_loose_blank(self):
        self.check(BadGuard, ("p", "X"), ("less", 1))
        self.check(BadGuard, ("p",), ("less", "X", "Y"), ("unlike", 1, 2, 3))
        self.check(BadGuard, ("p",), ("less", "X"))

    def test_bad_guard_behind_good_ones(self):
        self.check(BadGuard, ("p",), ("less", 1, 2), ("unlike", 1, 2), ("less",))

    def test_blank_of_the_head_in_no_asker(self):
        self.check(LooseBlank, ("p", "X"))
        self.check(LooseBlank, ("p", "X", "Y"), ("q", "X"))
        self.check(LooseBlank, ("p", "X"), ("q", "x"), ("q", "Xa"))

    def test_blank_of_the_head_in_guards_only(self):
        self.check(LooseBlank, ("p", "X"), ("less", "X", 3))

    def test_blank_of_a_guard_in_no_asker(self):
        self.check(LooseBlank, ("p",), ("less", "X", 3))
        self.check(LooseBlank, ("p",), ("unlike", 3, "X"))
        self.check(LooseBlank, ("p", "X"), ("q", "X"), ("unlike", "X", "Y"))

    def test_blank_of_a_guard_in_another_guard_or_in_the_head_only(self):
        self.check(LooseBlank, ("p",), ("less", "X", 3), ("unlike", "X", 1))
        self.check(LooseBlank, ("p", "X"), ("less", "X", 3), ("q", "Y"))


ROADS = [
    ("road", "elm", "oak"),
    ("road", "oak", "ash"),
    ("rain",),
    ("road", "elm", "ash"),
    ("road", "ash", "ash"),
    ("road", "elm"),
]
NUMBERS = [("at", 3), ("at", 1), ("at", "elm"), ("at", 2)]


class Ways(unittest.TestCase):
    def check(self, facts, body, expected):
        before = copy.deepcopy((facts, body))
        answer = ways(facts, body)
        self.assertEqual(answer, expected)
        self.assertEqual((facts, body), before)
        self.assertIs(type(answer), list)
        for way in answer:
            self.assertEqual([type(part) for part in (way,) + way], [tuple, list, tuple])
            self.assertTrue(all(type(pair) is tuple for pair in way[0]))

    def test_one_asker(self):
        self.check(ROADS, (("road", "elm", "X"),), [([("X", "oak")], (0,)), ([("X", "ash")], (3,))])

    def test_count_of_parts_tells_facts_apart(self):
        self.check(ROADS, (("road", "X"),), [([("X", "elm")], (5,))])

    def test_asker_with_the_same_blank_twice(self):
        self.check(ROADS, (("road", "X", "X"),), [([("X", "ash")], (4,))])

    def test_blanks_in_the_order_in_which_they_first_stand(self):
        self.check(
            [("p", 1, 2), ("q", 3, 1)],
            (("q", "Z", "B"), ("p", "B", "A")),
            [([("Z", 3), ("B", 1), ("A", 2)], (1, 0))],
        )

    def test_guard_ahead_does_not_change_the_order_of_the_blanks(self):
        self.check(
            [("p", 1, 2)],
            (("less", "B", "A"), ("p", "B", "A")),
            [([("B", 1), ("A", 2)], (0,))],
        )
        self.check(
            [("p", 2, 1)],
            (("less", "A", "B"), ("p", "B", "A")),
            [([("B", 2), ("A", 1)], (0,))],
        )

    def test_shared_blank_joins_two_askers(self):
        self.check(
            ROADS,
            (("road", "X", "Y"), ("road", "Y", "Z")),
            [
                ([("X", "elm"), ("Y", "oak"), ("Z", "ash")], (0, 1)),
                ([("X", "oak"), ("Y", "ash"), ("Z", "ash")], (1, 4)),
                ([("X", "elm"), ("Y", "ash"), ("Z", "ash")], (3, 4)),
                ([("X", "ash"), ("Y", "ash"), ("Z", "ash")], (4, 4)),
            ],
        )

    def test_ways_in_rising_order_of_their_places(self):
        facts = [("p", 9), ("q", "z"), ("p", 1), ("q", "a"), ("p", 5)]
        self.check(
            facts,
            (("q", "Y"), ("p", "X")),
            [
                ([("Y", "z"), ("X", 9)], (1, 0)),
                ([("Y", "z"), ("X", 1)], (1, 2)),
                ([("Y", "z"), ("X", 5)], (1, 4)),
                ([("Y", "a"), ("X", 9)], (3, 0)),
                ([("Y", "a"), ("X", 1)], (3, 2)),
                ([("Y", "a"), ("X", 5)], (3, 4)),
            ],
        )

    def test_places_above_nine_stand_in_the_order_of_numbers(self):
        facts = [("p", number) for number in range(12)]
        places = [way[1] for way in ways(facts, (("p", "X"), ("p", "Y")))]
        self.assertEqual(places, list(itertools.product(range(12), repeat=2)))

    def test_same_fact_for_two_askers(self):
        self.check(
            [("p", 1)],
            (("p", "X"), ("p", "Y")),
            [([("X", 1), ("Y", 1)], (0, 0))],
        )
        self.check([("p", 1)], (("p", "X"), ("p", "X")), [([("X", 1)], (0, 0))])
        self.check([("q", 2), ("p", 1)], (("p", 1), ("p", 1)), [([], (1, 1))])

    def test_asker_with_no_part(self):
        self.check(ROADS, (("rain",),), [([], (2,))])
        self.check(ROADS, (("rain",), ("road", "X"), ("rain",)), [([("X", "elm")], (2, 5, 2))])
        self.check(ROADS, (("snow",),), [])

    def test_asker_without_blanks(self):
        self.check(ROADS, (("road", "oak", "ash"),), [([], (1,))])
        self.check(ROADS, (("road", "oak", "elm"),), [])

    def test_asker_without_any_fact_leaves_no_way(self):
        self.check(ROADS, (("road", "X", "Y"), ("snow", "X")), [])
        self.check(ROADS, (("snow", "X"), ("road", "X", "Y")), [])

    def test_guard_behind_the_askers(self):
        self.check(
            NUMBERS,
            (("at", "X"), ("at", "Y"), ("less", "X", "Y")),
            [([("X", 1), ("Y", 3)], (1, 0)), ([("X", 1), ("Y", 2)], (1, 3)), ([("X", 2), ("Y", 3)], (3, 0))],
        )

    def test_guards_ahead_of_and_between_the_askers(self):
        expected = [([("X", 1), ("Y", 3)], (1, 0)), ([("X", 1), ("Y", 2)], (1, 3)), ([("X", 2), ("Y", 3)], (3, 0))]
        self.check(NUMBERS, (("less", "X", "Y"), ("at", "X"), ("at", "Y")), expected)
        self.check(NUMBERS, (("at", "X"), ("less", "X", "Y"), ("at", "Y")), expected)

    def test_guard_with_a_thing(self):
        self.check(NUMBERS, (("at", "X"), ("less", "X", 3)), [([("X", 1)], (1,)), ([("X", 2)], (3,))])
        self.check(NUMBERS, (("less", 1, "X"), ("at", "X")), [([("X", 3)], (0,)), ([("X", 2)], (3,))])
        self.check(
            NUMBERS,
            (("at", "X"), ("unlike", "X", 2)),
            [([("X", 3)], (0,)), ([("X", 1)], (1,)), ([("X", "elm")], (2,))],
        )

    def test_all_guards_must_hold(self):
        self.check(NUMBERS, (("at", "X"), ("less", "X", 3), ("unlike", "X", 1)), [([("X", 2)], (3,))])
        self.check(NUMBERS, (("unlike", "X", 1), ("less", "X", 3), ("at", "X")), [([("X", 2)], (3,))])

    def test_guard_with_the_same_blank_twice(self):
        self.check(NUMBERS, (("at", "X"), ("unlike", "X", "X")), [])
        self.check(NUMBERS, (("less", "X", "X"), ("at", "X")), [])

    def test_guard_without_blanks_beside_an_asker(self):
        self.check([("at", 3)], (("at", "X"), ("less", 1, 2)), [([("X", 3)], (0,))])
        self.check([("at", 3)], (("at", "X"), ("less", 2, 1)), [])
        self.check([("at", 3)], (("unlike", "elm", "elm"), ("at", "X")), [])

    def test_body_without_askers(self):
        for facts in ([], ROADS):
            self.check(facts, (("less", 1, 2),), [([], ())])
            self.check(facts, (("less", 1, 2), ("unlike", "elm", "oak")), [([], ())])
            self.check(facts, (("less", 2, 1),), [])
            self.check(facts, (("less", 1, 2), ("unlike", "elm", "elm")), [])

    def test_empty_body(self):
        self.check([], (), [([], ())])
        self.check(ROADS, (), [([], ())])

    def test_no_fact_at_all(self):
        self.check([], (("rain",),), [])
        self.check([], (("p", "X"), ("less", "X", 3)), [])

    def test_facts_that_differ_in_the_kind_of_a_thing_or_a_sign(self):
        self.check([("p", 1), ("p", "one"), ("p", -1)], (("p", -1),), [([], (2,))])
        large = 10 ** 99
        self.check([("p", large), ("p", large + 1)], (("p", "X"), ("less", large, "X")), [([("X", large + 1)], (1,))])

    def test_ways_share_no_setting(self):
        found = ways([("rain",), ("p", 1)], (("p", "X"), ("rain",)))
        found[0][0].append("changed")
        again = ways([("rain",), ("p", 1)], (("p", "X"), ("rain",)))
        self.assertEqual(again, [([("X", 1)], (1, 0))])
        two = ways([("p", 1), ("p", 2)], (("p", "X"),))
        self.assertIsNot(two[0][0], two[1][0])


class LargeBodies(unittest.TestCase):
    def test_hundreds_of_askers_over_hundreds_of_facts(self):
        count = 520
        facts = [("step", place, place + 1) for place in range(count)]
        blanks = ["B" + "b" * place for place in range(count + 1)]
        body = tuple(("step", blanks[place], blanks[place + 1]) for place in range(count))
        expected = [([(blank, place) for place, blank in enumerate(blanks)], tuple(range(count)))]
        self.assertEqual(ways(facts, body), expected)

    def test_hundreds_of_guards(self):
        body = (("p", "X"),) + tuple(("unlike", "X", number) for number in range(1, 520))
        facts = [("p", number) for number in range(520)]
        self.assertEqual(ways(facts, body), [([("X", 0)], (0,))])

    def test_three_askers_over_hundreds_of_facts(self):
        facts = [("step", place, place + 1) for place in range(500)]
        body = (("step", "A", "B"), ("step", "B", "C"), ("step", "C", "D"))
        self.assertEqual([way[1] for way in ways(facts, body)], [(n, n + 1, n + 2) for n in range(498)])

    def test_asker_without_any_fact_behind_many_others(self):
        blanks = ["B" + "b" * place for place in range(40)]
        body = tuple(("p", blank) for blank in blanks) + (("q",),)
        self.assertEqual(ways([("p", number) for number in range(10)], body), [])

    def test_guard_ahead_of_many_askers_that_do_not_hold_it(self):
        blanks = ["B" + "b" * place for place in range(40)]
        askers = tuple(("p", blank) for blank in blanks)
        facts = [("p", number) for number in range(10)]
        self.assertEqual(ways(facts, askers + (("less", "B", -1),)), [])
        self.assertEqual(ways(facts, askers + (("less", 2, 1),)), [])


class AllSmallBodies(unittest.TestCase):
    THINGS = (1, 2, "a")
    FACTS = [("p", 2, 1), ("q", 2), ("p", 1, 1), ("p", "a", 2), ("r",), ("q", "a"), ("p", 1, 2), ("q", 1), ("p", 2)]
    ATOMS = (
        ("p", "X", "Y"), ("p", "Y", "X"), ("p", "X", "X"), ("p", "Z", 1), ("q", "X"), ("q", "Z"), ("r",), ("q", 3),
        ("less", "X", "Y"), ("less", 1, "Z"), ("unlike", "Y", "X"), ("unlike", "Z", "a"), ("less", 2, 1),
    )

    def sound_bodies(self):
        for count in range(4):
            for body in itertools.product(self.ATOMS, repeat=count):
                try:
                    check_rule((("head",), body))
                except LooseBlank:
                    continue
                yield body

    def test_ways_are_those_of_the_definition(self):
        tried = 0
        for body in self.sound_bodies():
            tried += 1
            if ways(self.FACTS, body) != ways_by_trying_all(self.FACTS, body, self.THINGS):
                self.fail(f"not the ways of {body!r}")
        self.assertGreater(tried, 500)

    def test_loom_finds_just_the_ways_with_a_fact_taken_in_last(self):
        for body in self.sound_bodies():
            fresh = len(body) + 4
            loom = Loom(body)
            loom.take_in(self.FACTS[:2])
            loom.take_in(self.FACTS[2:fresh])
            loom.take_in(self.FACTS[fresh:])
            found = []
            unfinished = loom.beginnings()
            while unfinished:
                way = unfinished.pop()
                if loom.is_whole(way):
                    found.append(way)
                else:
                    unfinished.extend(loom.carried_on(way))
            expected = [way for way in ways(self.FACTS, body) if max(way[1], default=-1) >= fresh]
            if found != expected:
                self.fail(f"not the fresh ways of {body!r}")


if __name__ == "__main__":
    unittest.main()
