"""Points 1, 15 to 17: how rules are written and lines are read."""

import inspect
import itertools
import random
import re
import unittest

from factloom.errors import LoomError, NoRule
from factloom.notes import read, shown

LARGE = int("1234567890" * 10)

# A rule and the line that it is written as.
WRITTEN = (
    ((("rain",), ()), "rain()"),
    ((("road", "elm", "X"), ()), "road(elm, X)"),
    ((("p", "a", "B", "Cc", "Ddd", "e"), ()), "p(a, B, Cc, Ddd, e)"),
    ((("at", 0), ()), "at(0)"),
    ((("at", 7), ()), "at(7)"),
    ((("at", -7), ()), "at(-7)"),
    ((("at", 10, -10, 100, 0), ()), "at(10, -10, 100, 0)"),
    ((("at", LARGE), ()), "at(" + "1234567890" * 10 + ")"),
    ((("at", -LARGE), ()), "at(-" + "1234567890" * 10 + ")"),
    ((("at", 10 ** 130), ()), "at(1" + "0" * 130 + ")"),
    ((("rain",), (("dew",),)), "rain() if dew()"),
    (
        (("way", "X", "Z"), (("road", "X", "Y"), ("way", "Y", "Z"))),
        "way(X, Z) if road(X, Y) and way(Y, Z)",
    ),
    (
        (("p",), (("q",), ("less", -1, "X"), ("q", "X"), ("unlike", "X", "elm"))),
        "p() if q() and less(-1, X) and q(X) and unlike(X, elm)",
    ),
    ((("if",), ()), "if()"),
    ((("and", "if", "and"), ()), "and(if, and)"),
    ((("if",), (("if",),)), "if() if if()"),
    ((("and",), (("and",), ("and",))), "and() if and() and and()"),
    ((("if", "if", "and"), (("and", "if", "if"), ("if", "and", "and"))), "if(if, and) if and(if, if) and if(and, and)"),
    # Rules that are not sound.
    ((("less", 1, 2), ()), "less(1, 2)"),
    ((("unlike",), (("less",),)), "unlike() if less()"),
    ((("p",), (("less", 1), ("unlike", 1, 2, 3))), "p() if less(1) and unlike(1, 2, 3)"),
    ((("p", "X"), ()), "p(X)"),
    ((("p", "X"), (("less", "Y", "Z"),)), "p(X) if less(Y, Z)"),
)

PART = "(?:[a-z]+|[A-Z][a-z]*|0|-?[1-9][0-9]*)"
ATOM = f"[a-z]+[(](?:{PART}(?:, {PART})*)?[)]"
LINE = re.compile(f"{ATOM}(?: if {ATOM}(?: and {ATOM})*)?")
SIGNS = "".join(chr(number) for number in range(ord(" "), ord("~") + 1))


class Interface(unittest.TestCase):
    def test_argument_names(self):
        self.assertEqual(list(inspect.signature(shown).parameters), ["rule"])
        self.assertEqual(list(inspect.signature(read).parameters), ["line"])


class Shown(unittest.TestCase):
    def test_rules_and_their_lines(self):
        for rule, line in WRITTEN:
            with self.subTest(line=line):
                answer = shown(rule)
                self.assertEqual(answer, line)
                self.assertIs(type(answer), str)

    def test_hundreds_of_atoms_and_of_parts(self):
        wide = ("p",) + tuple(range(-260, 260))
        written = "p(" + ", ".join(str(number) for number in range(-260, 260)) + ")"
        self.assertEqual(shown((wide, ())), written)
        self.assertEqual(shown((wide, (("q",),) * 520)), written + " if q()" + " and q()" * 519)


class Read(unittest.TestCase):
    def check_refused(self, line):
        with self.assertRaises(LoomError, msg=line) as caught:
            read(line)
        self.assertIs(type(caught.exception), NoRule)

    def check_line(self, line):
        """Hold what is read of the line against the form of a line, told by one pattern."""
        if LINE.fullmatch(line):
            self.assertEqual(shown(read(line)), line)
        else:
            self.check_refused(line)

    def test_lines_and_their_rules(self):
        for rule, line in WRITTEN:
            with self.subTest(line=line):
                answer = read(line)
                self.assertEqual(answer, rule)
                self.assertEqual([type(part) for part in (answer,) + answer], [tuple, tuple, tuple])
                for atom, expected in zip((answer[0],) + answer[1], (rule[0],) + rule[1]):
                    self.assertIs(type(atom), tuple)
                    self.assertEqual([type(part) for part in atom], [type(part) for part in expected])

    def test_lines_that_the_document_names(self):
        lines = (
            "", "rain", "rain ()", "rain( )", "road(elm,oak)", "road(elm, )", "road(Elm, oAk)", "way(XY)", "at(01)",
            "at(-0)", "at(+1)", "Rain()", "2()", "rain() if ", "rain() if dew() if fog()", "rain().",
        )
        for line in lines:
            with self.subTest(line=line):
                self.check_refused(line)

    def test_wrong_atoms(self):
        lines = (
            "()", "(elm)", "rain(", "rain)", "rain()()", "rain(())", "rain(dew())", "road(elm, oak", "road(elm oak)",
            "road(elm , oak)", "road(elm,  oak)", "road( elm, oak)", "road(elm, oak )", "road(, oak)", "road(,)",
            "road(, )", "road(elm,, oak)", "road(elm; oak)", "ra_in()", "rain2()", "raiN()", "less", "-()",
            "road(elm,oak, fir)", "road(elm, oak,)", "road[elm]", '"rain"()', "rain()rain()", "rain() ()",
        )
        for line in lines:
            with self.subTest(line=line):
                self.check_refused(line)

    def test_wrong_parts(self):
        parts = (
            "00", "-01", "-", "--1", "1-", "1a", "a1", "X1", "1X", "aB", "XaY", "_", "x_y", "1.0", "1e", "1_000", "0x",
            "-a", "-X", "+0", "'a'", " ", "1 0", "a b", "0-1", "-00",
        )
        for part in parts:
            with self.subTest(part=part):
                self.check_refused(f"at({part})")
                self.check_refused(f"at(1, {part})")
                self.check_refused(f"rain() if at({part}, X)")

    def test_wrong_joins(self):
        lines = (
            "rain() if", "rain()if dew()", "rain() ifdew()", "rain()  if dew()", "rain() if  dew()", " if dew()",
            "if dew()", "rain() and dew()", "rain() if dew() and ", "rain() if dew() and", "rain() if and dew()",
            "rain() if dew() and and fog()", "rain() if dew()  and fog()", "rain() if dew() and  fog()",
            "rain() if dew(), fog()", "rain() if dew() and fog() if sun()", "rain() if dew() fog()", "rain() dew()",
            "rain() If dew()", "rain() IF dew()", "rain() if dew() And fog()", "rain() if if dew()", " if ", " and ",
            "rain() if dew()and fog()", "rain() if dew() andfog()", "rain() if  and dew()", "rain() :- dew()",
        )
        for line in lines:
            with self.subTest(line=line):
                self.check_refused(line)

    def test_blanks_ahead_of_the_line_and_behind_it(self):
        for rule, line in WRITTEN:
            for wrong in (" " + line, line + " ", " " + line + " ", line + "  "):
                self.check_refused(wrong)

    def test_good_line_with_one_sign_replaced_left_out_or_put_in(self):
        lines = [line for rule, line in WRITTEN if len(line) < 60]
        for line in lines:
            for place in range(len(line) + 1):
                self.check_line(line[:place] + line[place + 1:])
                for sign in SIGNS:
                    self.check_line(line[:place] + sign + line[place:])
                    self.check_line(line[:place] + sign + line[place + 1:])

    def test_all_short_lines_of_some_signs(self):
        for count in range(6):
            for signs in itertools.product("aX01-(), ", repeat=count):
                self.check_line("".join(signs))

    def test_all_short_rows_of_some_texts(self):
        texts = ("a()", "if(b)", " if ", " and ", "if", "and", " ", "X", "(1, 2)", "(")
        for count in range(6):
            for row in itertools.product(texts, repeat=count):
                self.check_line("".join(row))

    def test_numbers_of_many_figures(self):
        for count in (18, 19, 20, 99, 100, 101, 150):
            figures = "9" * count
            self.assertEqual(read(f"at({figures}, -{figures})"), (("at", 10 ** count - 1, 1 - 10 ** count), ()))
            self.check_refused(f"at(0{figures})")
            self.check_refused(f"at(-0{figures})")
            self.check_refused(f"at({figures}x)")

    def test_hundreds_of_atoms_and_of_parts(self):
        wide = ("p",) + tuple(range(-260, 260))
        rule = (wide, (("q", "X"), wide) * 260)
        self.assertEqual(read(shown(rule)), rule)
        self.check_refused(shown(rule) + " and ")


class ThereAndBack(unittest.TestCase):
    def test_what_is_shown_is_read_to_the_same_rule(self):
        chosen = random.Random(30)
        relations = ("p", "rain", "if", "and", "less", "unlike")
        parts = (0, 1, -1, 10, -100, 10 ** 99, -10 ** 120, "a", "elm", "if", "and", "X", "Yes", "If", "And", "A")

        def atom():
            return (chosen.choice(relations),) + tuple(chosen.choices(parts, k=chosen.randint(0, 4)))

        lines = {}
        for turn in range(3000):
            rule = (atom(), tuple(atom() for place in range(chosen.randint(0, 4))))
            line = shown(rule)
            self.assertRegex(line, LINE)
            self.assertEqual(read(line), rule)
            self.assertEqual(lines.setdefault(line, rule), rule)


if __name__ == "__main__":
    unittest.main()
