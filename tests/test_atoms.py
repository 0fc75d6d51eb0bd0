"""Points 1 to 6: filling, matching and holding atoms."""

import inspect
import unittest

from factloom.atoms import filled, holds, matched

LARGE = 10 ** 99 + 7


class Interface(unittest.TestCase):
    def test_argument_names(self):
        self.assertEqual(list(inspect.signature(filled).parameters), ["atom", "setting"])
        self.assertEqual(list(inspect.signature(matched).parameters), ["atom", "fact", "setting"])
        self.assertEqual(list(inspect.signature(holds).parameters), ["guard"])


class Filled(unittest.TestCase):
    def check(self, atom, setting, expected):
        before = list(setting)
        answer = filled(atom, setting)
        self.assertEqual(answer, expected)
        self.assertIs(type(answer), tuple)
        self.assertEqual(setting, before)

    def test_blank_of_the_setting_is_replaced(self):
        self.check(("road", "X", "Y"), [("X", "elm"), ("Y", 3)], ("road", "elm", 3))

    def test_blank_that_the_setting_has_not_stays(self):
        self.check(("road", "X", "Y"), [("X", "elm")], ("road", "elm", "Y"))
        self.check(("road", "X", "Y"), [], ("road", "X", "Y"))

    def test_blank_that_the_atom_has_not_changes_nothing(self):
        self.check(("road", "elm"), [("X", "oak")], ("road", "elm"))

    def test_order_of_the_setting_does_not_matter(self):
        self.check(("road", "X", "Y"), [("Y", "oak"), ("X", "elm")], ("road", "elm", "oak"))

    def test_same_blank_at_several_places(self):
        self.check(("p", "X", 1, "X", "Y", "X"), [("X", 2)], ("p", 2, 1, 2, "Y", 2))

    def test_atom_without_parts(self):
        self.check(("rain",), [], ("rain",))
        self.check(("rain",), [("Rain", 1), ("R", 2)], ("rain",))

    def test_word_that_looks_like_a_blank_in_small_letters_stays(self):
        self.check(("x", "x", "X", "road", "Road"), [("X", 1), ("Road", 2)], ("x", "x", 1, "road", 2))

    def test_long_names_of_blanks_are_told_apart(self):
        self.check(("p", "X", "Xa", "Xab"), [("Xa", 1)], ("p", "X", 1, "Xab"))
        self.check(("p", "X", "Xa", "Xab"), [("X", 1), ("Xab", 2)], ("p", 1, "Xa", 2))

    def test_whole_numbers(self):
        self.check(("p", -5, "X", 0, "Y"), [("X", -LARGE), ("Y", LARGE)], ("p", -5, -LARGE, 0, LARGE))
        self.check(("p", LARGE, -LARGE), [("X", 1)], ("p", LARGE, -LARGE))

    def test_guard_is_filled_too(self):
        self.check(("less", "X", 3), [("X", 1)], ("less", 1, 3))
        self.check(("unlike", "X", "Y"), [("Y", "elm")], ("unlike", "X", "elm"))

    def test_many_parts(self):
        blanks = ["B" + "b" * count for count in range(600)]
        setting = [(blank, place) for place, blank in enumerate(blanks)]
        self.check(("p",) + tuple(blanks), setting, ("p",) + tuple(range(600)))


class Matched(unittest.TestCase):
    def check(self, atom, fact, setting, expected):
        before = list(setting)
        answer = matched(atom, fact, setting)
        self.assertEqual(answer, expected)
        self.assertEqual(setting, before)
        if expected is not None:
            self.assertIs(type(answer), list)
            self.assertIsNot(answer, setting)
            self.assertTrue(all(type(pair) is tuple for pair in answer))
            self.assertEqual(filled(atom, answer), fact)

    def test_another_relation(self):
        self.check(("road", "X"), ("rain", "elm"), [], None)
        self.check(("road",), ("rain",), [], None)

    def test_another_count_of_parts(self):
        self.check(("road", "X"), ("road", "elm", "oak"), [], None)
        self.check(("road", "X", "Y"), ("road", "elm"), [], None)
        self.check(("road",), ("road", "elm"), [], None)
        self.check(("road", "X"), ("road",), [], None)
        self.check(("road", "elm"), ("road", "elm", "oak"), [], None)

    def test_another_thing(self):
        self.check(("road", "elm", "X"), ("road", "oak", "elm"), [], None)
        self.check(("road", "X", 2), ("road", "oak", 3), [], None)
        self.check(("road", 2), ("road", -2), [], None)
        self.check(("road", 2), ("road", "two"), [], None)
        self.check(("road", "x"), ("road", "elm"), [], None)
        self.check(("road", LARGE), ("road", LARGE + 1), [], None)

    def test_blank_for_two_things(self):
        self.check(("road", "X", "X"), ("road", "elm", "oak"), [], None)
        self.check(("road", "X", "Y", "X"), ("road", 1, 1, 2), [], None)

    def test_blank_that_the_setting_gives_another_thing(self):
        self.check(("road", "X", "Y"), ("road", "elm", "oak"), [("X", "oak")], None)
        self.check(("road", "X", "Y"), ("road", "elm", "oak"), [("A", 1), ("Y", 7)], None)

    def test_pairs_in_the_order_of_the_blanks_in_the_atom(self):
        self.check(("p", "Y", "X", "Y", "A"), ("p", 1, 2, 1, 3), [], [("Y", 1), ("X", 2), ("A", 3)])

    def test_own_pairs_of_the_setting_come_first_in_their_order(self):
        setting = [("Z", "ash"), ("Y", "oak"), ("A", 4)]
        expected = setting + [("X", "elm"), ("B", 9)]
        self.check(("p", "X", "Y", "B"), ("p", "elm", "oak", 9), setting, expected)

    def test_setting_that_has_all_blanks_already(self):
        setting = [("Y", "oak"), ("X", "elm")]
        self.check(("road", "X", "Y"), ("road", "elm", "oak"), setting, setting)

    def test_same_blank_for_the_same_thing(self):
        self.check(("road", "X", "X"), ("road", "elm", "elm"), [], [("X", "elm")])

    def test_two_blanks_for_the_same_thing(self):
        self.check(("road", "X", "Y"), ("road", "elm", "elm"), [], [("X", "elm"), ("Y", "elm")])

    def test_atom_without_blanks(self):
        self.check(("road", "elm", 2), ("road", "elm", 2), [], [])
        self.check(("road", "elm", 2), ("road", "elm", 2), [("X", 1)], [("X", 1)])

    def test_atom_without_parts(self):
        self.check(("rain",), ("rain",), [], [])
        self.check(("rain",), ("rain",), [("X", "elm")], [("X", "elm")])

    def test_relation_may_stand_as_a_part_too(self):
        self.check(("rain", "rain", "X"), ("rain", "rain", "rain"), [], [("X", "rain")])

    def test_whole_numbers(self):
        self.check(("p", "X", -3, 0), ("p", -LARGE, -3, 0), [], [("X", -LARGE)])
        self.check(("p", "X", "X"), ("p", LARGE, 10 ** 99 + 7), [], [("X", LARGE)])
        self.check(("p", "X"), ("p", 0), [("X", 0)], [("X", 0)])
        self.check(("p", "X"), ("p", 1), [("X", 0)], None)

    def test_refused_match_leaves_the_setting_alone(self):
        self.check(("p", "X", "Y", "X"), ("p", 1, 2, 3), [("A", 1)], None)


class Holds(unittest.TestCase):
    def check(self, relation, first, second, expected):
        self.assertIs(holds((relation, first, second)), expected)

    def test_less_of_two_whole_numbers(self):
        self.check("less", 1, 2, True)
        self.check("less", 2, 2, False)
        self.check("less", 3, 2, False)
        self.check("less", -2, -1, True)
        self.check("less", -1, -2, False)
        self.check("less", -1, 0, True)
        self.check("less", 9, 10, True)
        self.check("less", LARGE, LARGE + 1, True)
        self.check("less", LARGE, -LARGE, False)

    def test_less_of_a_number_and_a_word(self):
        self.check("less", 1, "elm", False)
        self.check("less", "elm", 1, False)

    def test_less_of_two_words(self):
        self.check("less", "ash", "elm", False)
        self.check("less", "elm", "ash", False)
        self.check("less", "elm", "elm", False)

    def test_unlike_of_the_same_thing(self):
        self.check("unlike", "elm", "elm", False)
        self.check("unlike", 3, 3, False)
        self.check("unlike", LARGE, 10 ** 99 + 7, False)

    def test_unlike_of_different_things(self):
        self.check("unlike", "elm", "oak", True)
        self.check("unlike", "elm", "el", True)
        self.check("unlike", 3, -3, True)
        self.check("unlike", 2, 1, True)
        self.check("unlike", 1, 2, True)
        self.check("unlike", 0, "nought", True)
        self.check("unlike", LARGE, LARGE + 1, True)


if __name__ == "__main__":
    unittest.main()
