import inspect
import itertools
import re
import unittest

from provenames import names
from provenames.errors import BadName, BadRecord
from provenames.names import (
    ancestors, format_name, is_name, lies_below, lies_in, parse_name, shared, star,
)

CHARACTERS = "abcdefghijklmnopqrstuvwxyz0123456789-"
TWELVE = ("a", "b", "c", "d", "e", "f", "g", "h", "i", "j", "k", "l")
THIRTEEN = TWELVE + ("m",)
# Names that are equal, prefixes of each other, or differ in a label; labels that are prefixes.
SAMPLES = [
    (), ("*",), ("a",), ("ab",), ("b",), ("-",), ("a", "a"), ("a", "ab"), ("a", "*"), ("ab", "a"),
    ("a", "a", "a"), ("a", "a", "*"), ("a", "b", "a"), ("b", "a", "a"), TWELVE, TWELVE[:11],
    TWELVE[:11] + ("*",), TWELVE[:11] + ("x",), ("x",) + TWELVE[1:],
]
WRITTEN_LABEL = "[A-Za-z0-9-]{1,20}"
WRITTEN_NAME = re.compile(
    r"\.|(?:\*|" + WRITTEN_LABEL + r")\.(?:" + WRITTEN_LABEL + r"\.){0,11}"
)


class IsNameTest(unittest.TestCase):
    def assert_is_name(self, labels, expected):
        with self.subTest(labels=labels):
            self.assertIs(is_name(labels), expected)

    def test_number_of_labels(self):
        self.assert_is_name((), True)
        self.assert_is_name(("a",), True)
        self.assert_is_name(("org", "tree", "www"), True)
        self.assert_is_name(TWELVE, True)
        self.assert_is_name(THIRTEEN, False)
        self.assert_is_name(THIRTEEN * 2, False)

    def test_length_of_labels(self):
        for length, expected in ((0, False), (1, True), (20, True), (21, False), (60, False)):
            label = "x" * length
            self.assert_is_name((label,), expected)
            self.assert_is_name((label, "a"), expected)
            self.assert_is_name(("a", label), expected)
            self.assert_is_name(("a", label, "b"), expected)

    def test_each_character_from_the_space_to_the_tilde(self):
        for code in range(32, 127):
            character = chr(code)
            expected = character in CHARACTERS
            self.assert_is_name((character,), expected or character == "*")
            self.assert_is_name((character, "a"), expected)
            self.assert_is_name(("a" + character,), expected)
            self.assert_is_name((character + "a",), expected)
            self.assert_is_name(("a" + character + "a", "b"), expected)

    def test_characters_beside_the_37(self):
        for character in "AZ._ `{/:,.%*":
            self.assert_is_name(("a" + character,), False)
            self.assert_is_name(("b", character + "a", "b"), False)

    def test_characters_that_resemble_letters_and_digits(self):
        for character in "\n\t\u00e4\u00b2\u0660\uff41\u212a":
            self.assert_is_name((character,), False)
            self.assert_is_name(("a" + character,), False)

    def test_all_characters_together(self):
        self.assert_is_name((CHARACTERS[:20], CHARACTERS[17:]), True)

    def test_place_of_the_star(self):
        self.assert_is_name(("*",), True)
        self.assert_is_name(("a", "*"), True)
        self.assert_is_name(TWELVE[:11] + ("*",), True)
        self.assert_is_name(TWELVE + ("*",), False)
        self.assert_is_name(("*", "a"), False)
        self.assert_is_name(("a", "*", "b"), False)
        self.assert_is_name(("*", "*"), False)
        self.assert_is_name(("a", "*", "*"), False)
        for label in ("**", "a*", "*a", "a*a", "*-"):
            self.assert_is_name((label,), False)
            self.assert_is_name(("a", label), False)


class WrittenFormTest(unittest.TestCase):
    def assert_written(self, name, text):
        with self.subTest(text=text):
            parsed = parse_name(text)
            self.assertEqual(parsed, name)
            self.assertIs(type(parsed), tuple)
            self.assertEqual({type(label) for label in parsed} - {str}, set())
            self.assertEqual(format_name(name), text)
            self.assertIs(type(format_name(name)), str)

    def assert_bad(self, text):
        with self.subTest(text=text):
            with self.assertRaises(BadName):
                parse_name(text)

    def test_written_forms(self):
        self.assert_written((), ".")
        self.assert_written(("a",), "a.")
        self.assert_written(("org", "tree", "www"), "www.tree.org.")
        self.assert_written(("*",), "*.")
        self.assert_written(("org", "*"), "*.org.")
        self.assert_written(("-", "0-9"), "0-9.-.")
        self.assert_written(("x" * 20, "y" * 20), "y" * 20 + "." + "x" * 20 + ".")

    def test_twelve_and_thirteen_labels(self):
        self.assert_written(TWELVE, "l.k.j.i.h.g.f.e.d.c.b.a.")
        self.assert_written(TWELVE[:11] + ("*",), "*.k.j.i.h.g.f.e.d.c.b.a.")
        self.assert_bad("m.l.k.j.i.h.g.f.e.d.c.b.a.")
        self.assert_bad("*.l.k.j.i.h.g.f.e.d.c.b.a.")
        self.assert_bad("a." * 200)

    def test_capital_letters_stand_for_small_letters(self):
        for text in ("A.", "WWW.TREE.ORG.", "wWw.Tree.orG.", "*.A.", "Z9-Z.A0."):
            with self.subTest(text=text):
                self.assertEqual(parse_name(text), parse_name(text.lower()))
                self.assertEqual(format_name(parse_name(text)), text.lower())
        self.assertEqual(
            parse_name("ABCDEFGHIJKLMNOPQRST.UVWXYZ."), ("uvwxyz", "abcdefghijklmnopqrst"))

    def test_dots_that_are_missing_or_too_many(self):
        for text in ("", "a", "www.tree.org", "*", "..", "...", ".a", ".a.", ".www.tree.org.",
                     "..a.", "www..org.", "a..", "www.tree.org..", ". .", "*..", ".*."):
            self.assert_bad(text)

    def test_stars_that_are_not_the_last_label_of_the_name(self):
        for text in ("a.*.", "*.*.", "a.*.b.", "www.*.org.", "**.", "*a.", "a*.", "a*a.org."):
            self.assert_bad(text)

    def test_labels_that_are_too_long(self):
        self.assert_bad("x" * 21 + ".")
        self.assert_bad("a." + "X" * 21 + ".b.")

    def test_each_character_from_the_space_to_the_tilde(self):
        for code in range(32, 127):
            character = chr(code)
            if character.lower() in CHARACTERS:
                self.assertEqual(parse_name("a" + character + "."), ("a" + character.lower(),))
            elif character != ".":
                self.assert_bad("a" + character + ".")
                self.assert_bad("b.a" + character + ".c.")

    def test_blanks_around_the_written_form(self):
        for text in (" a.", "a. ", " . ", ". ", " .", "a.\n", "\na.", ".\n"):
            self.assert_bad(text)

    def test_characters_whose_small_letter_is_in_a_label(self):
        self.assertEqual("\u212a".lower(), "k")
        self.assert_bad("\u212a.")
        self.assert_bad("a\u0130.")

    def test_every_short_string(self):
        for length in range(7):
            for parts in itertools.product("aA*._", repeat=length):
                text = "".join(parts)
                if WRITTEN_NAME.fullmatch(text):
                    self.assertEqual(format_name(parse_name(text)), text.lower())
                    self.assertEqual(parse_name(text), parse_name(text.lower()))
                else:
                    self.assertRaises(BadName, parse_name, text)

    def test_names_come_back_from_their_written_forms(self):
        for name in SAMPLES:
            with self.subTest(name=name):
                self.assertEqual(parse_name(format_name(name)), name)


class LiesInTest(unittest.TestCase):
    def assert_lies(self, name, above, inside, below):
        with self.subTest(name=name, above=above):
            self.assertIs(lies_in(name, above), inside)
            self.assertIs(lies_below(name, above), below)

    def test_equal_names(self):
        for name in SAMPLES:
            self.assert_lies(name, name, True, False)

    def test_the_root(self):
        for name in SAMPLES[1:]:
            self.assert_lies(name, (), True, True)
            self.assert_lies((), name, False, False)

    def test_prefixes_and_longer_names(self):
        self.assert_lies(("org", "tree"), ("org",), True, True)
        self.assert_lies(("org", "tree", "www"), ("org",), True, True)
        self.assert_lies(("org",), ("org", "tree"), False, False)
        self.assert_lies(TWELVE, TWELVE[:11], True, True)
        self.assert_lies(TWELVE[:11], TWELVE, False, False)

    def test_names_that_differ_in_a_label(self):
        self.assert_lies(("org", "tree"), ("net",), False, False)
        self.assert_lies(("org", "tree", "www"), ("org", "bush"), False, False)
        self.assert_lies(("org", "tree"), ("org", "bush"), False, False)
        self.assert_lies(("org", "tree"), ("tree",), False, False)

    def test_labels_that_are_prefixes_of_labels(self):
        self.assert_lies(("ab",), ("a",), False, False)
        self.assert_lies(("a",), ("ab",), False, False)
        self.assert_lies(("ab", "c"), ("a",), False, False)
        self.assert_lies(("a", "bc"), ("a", "b"), False, False)

    def test_wildcards(self):
        self.assert_lies(("org", "*"), ("org",), True, True)
        self.assert_lies(("org", "tree"), ("org", "*"), False, False)
        self.assert_lies(("org",), ("*",), False, False)
        self.assert_lies(("*",), (), True, True)

    def test_all_pairs(self):
        for name in SAMPLES:
            for above in SAMPLES:
                inside = list(name)[:len(above)] == list(above)
                self.assert_lies(name, above, inside, inside and len(name) > len(above))

    def test_names_beyond_the_limits_raise_no_error(self):
        self.assert_lies(THIRTEEN, TWELVE, True, True)
        self.assert_lies(("x" * 21, "a"), ("x" * 21,), True, True)


class SharedTest(unittest.TestCase):
    def assert_shared(self, name, other, expected):
        with self.subTest(name=name, other=other):
            self.assertEqual(shared(name, other), expected)
            self.assertEqual(shared(other, name), expected)
            self.assertIs(type(shared(name, other)), tuple)

    def test_equal_names(self):
        for name in SAMPLES:
            self.assert_shared(name, name, name)

    def test_the_root(self):
        for name in SAMPLES:
            self.assert_shared(name, (), ())

    def test_a_prefix(self):
        self.assert_shared(("org", "tree"), ("org",), ("org",))
        self.assert_shared(("org", "tree", "www"), ("org", "tree"), ("org", "tree"))
        self.assert_shared(TWELVE, TWELVE[:11], TWELVE[:11])

    def test_names_that_differ_in_a_label(self):
        self.assert_shared(("org", "tree", "www"), ("org", "bush", "www"), ("org",))
        self.assert_shared(("org", "tree"), ("net", "tree"), ())
        self.assert_shared(TWELVE, TWELVE[:11] + ("x",), TWELVE[:11])
        self.assert_shared(("a", "b", "c", "d"), ("a", "x", "c", "d"), ("a",))

    def test_labels_that_are_prefixes_of_labels(self):
        self.assert_shared(("ab",), ("a",), ())
        self.assert_shared(("a", "bc"), ("a", "b", "c"), ("a",))

    def test_wildcards(self):
        self.assert_shared(("org", "*"), ("org", "tree"), ("org",))
        self.assert_shared(("*",), ("*",), ("*",))
        self.assert_shared(("*",), ("a",), ())

    def test_the_longest_common_prefix_of_all_pairs(self):
        for name in SAMPLES:
            for other in SAMPLES:
                common = [above for above in prefixes(name) if above in prefixes(other)]
                self.assert_shared(name, other, max(common, key=len))


class StarTest(unittest.TestCase):
    def test_stars(self):
        for name, expected in (
            ((), ("*",)),
            (("a",), ("a", "*")),
            (("org", "tree"), ("org", "tree", "*")),
            (TWELVE[:11], TWELVE[:11] + ("*",)),
        ):
            with self.subTest(name=name):
                self.assertEqual(star(name), expected)
                self.assertTrue(is_name(star(name)))

    def test_names_without_a_star(self):
        for name in (("*",), ("a", "*"), TWELVE, TWELVE[:11] + ("*",), THIRTEEN):
            with self.subTest(name=name):
                self.assertRaises(BadName, star, name)

    def test_a_label_beyond_the_limit_raises_no_error(self):
        self.assertEqual(star(("x" * 21,)), ("x" * 21, "*"))


class AncestorsTest(unittest.TestCase):
    def test_is_a_generator(self):
        self.assertTrue(inspect.isgeneratorfunction(ancestors))
        self.assertTrue(inspect.isgenerator(ancestors(("a",))))

    def test_from_the_root_to_the_name(self):
        for name, expected in (
            ((), [()]),
            (("a",), [(), ("a",)]),
            (("*",), [(), ("*",)]),
            (("org", "tree", "www"), [(), ("org",), ("org", "tree"), ("org", "tree", "www")]),
            (("org", "*"), [(), ("org",), ("org", "*")]),
        ):
            with self.subTest(name=name):
                self.assertEqual(list(ancestors(name)), expected)

    def test_twelve_labels(self):
        found = list(ancestors(TWELVE))
        self.assertEqual(len(found), 13)
        self.assertEqual(found[0], ())
        self.assertEqual(found[-1], TWELVE)

    def test_the_names_in_which_the_name_lies(self):
        for name in SAMPLES:
            found = list(ancestors(name))
            self.assertEqual([len(above) for above in found], list(range(len(name) + 1)))
            for above in found:
                self.assertIs(lies_in(name, above), True)


class OrderTest(unittest.TestCase):
    def test_label_by_label_from_the_root_down(self):
        written = [".", "*.", "-.", "0.", "a.", "*.a.", "a.a.", "z.a.", "a.z.a.", "ab.a.", "a-.",
                   "ab.", "b."]
        ordered = [".", "*.", "-.", "0.", "a.", "*.a.", "a.a.", "ab.a.", "z.a.", "a.z.a.", "a-.",
                   "ab.", "b."]
        found = [format_name(name) for name in sorted([parse_name(text) for text in written])]
        self.assertEqual(found, ordered)

    def test_labels_are_ordered_by_the_codes_of_their_characters(self):
        labels = "*-0123456789abcdefghijklmnopqrstuvwxyz"
        self.assertEqual(sorted([(label,) for label in labels[::-1]]), [(label,) for label in labels])
        self.assertLess(("a",), ("a-",))
        self.assertLess(("z",), ("zz",))

    def test_a_name_then_those_below_it_then_the_next_greater_ones(self):
        ordered = sorted(SAMPLES)
        for at, name in enumerate(ordered):
            greater = ordered[at + 1:]
            below = [other for other in ordered if lies_below(other, name)]
            with self.subTest(name=name):
                self.assertEqual(greater[:len(below)], below)
                for other in greater[len(below):]:
                    self.assertFalse(lies_in(other, name))


class ModuleTest(unittest.TestCase):
    def test_functions_are_defined_in_their_module(self):
        for function in (is_name, parse_name, format_name, lies_in, lies_below, shared, star, ancestors):
            with self.subTest(function=function.__name__):
                self.assertEqual(function.__module__, "provenames.names")
                self.assertIs(getattr(names, function.__name__), function)

    def test_arguments_have_the_names_of_the_interface(self):
        self.assertIs(is_name(labels=("a",)), True)
        self.assertEqual(parse_name(text="a."), ("a",))
        self.assertEqual(format_name(name=("a",)), "a.")
        self.assertIs(lies_in(name=("a",), above=()), True)
        self.assertIs(lies_below(name=("a",), above=()), True)
        self.assertEqual(shared(name=("a",), other=()), ())
        self.assertEqual(star(name=()), ("*",))
        self.assertEqual(list(ancestors(name=())), [()])

    def test_a_bad_name_is_no_bad_record(self):
        with self.assertRaises(BadName) as caught:
            parse_name("")
        self.assertNotIsInstance(caught.exception, BadRecord)


def prefixes(name):
    return [name[:length] for length in range(len(name) + 1)]


if __name__ == "__main__":
    unittest.main()
