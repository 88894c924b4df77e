import itertools
import unittest

from provenames import records
from provenames.errors import BadName, BadRecord
from provenames.records import KINDS, make_set

LAST = 4294967295
OWNER = ("org", "tree")
TWELVE = ("a", "b", "c", "d", "e", "f", "g", "h", "i", "j", "k", "l")
NO_NAMES = [
    TWELVE + ("m",), ("x" * 21,), ("",), ("a", ""), ("A",), ("a_",), ("a.b",), ("a b",), ("a%",),
    ("*", "a"), ("*", "*"), ("a*",),
]
NAMES = [(), ("a",), ("*",), ("org", "*"), ("x" * 20, "0-9"), TWELVE]
WORD_KINDS = ("address", "key", "link")
ONE_VALUE = {
    "address": 5, "text": "oak", "mail": (10, ("a",)), "alias": ("a",), "server": ("a",),
    "start": (1, 2), "key": 5, "link": 5, "gap": (("a",), ("text", "gap")),
}
TWO_VALUES = {
    "address": [1, 2], "text": ["a", "b"], "mail": [(1, ()), (2, ())], "alias": [("a",), ("b",)],
    "server": [("a",), ("b",)], "start": [(1, 2), (2, 1)], "key": [1, 2], "link": [1, 2],
    "gap": [((), ()), ((), ("gap",))],
}


class RecordsTest(unittest.TestCase):
    def assert_good(self, kind, value, ttl=60, name=OWNER):
        with self.subTest(kind=kind, value=value, ttl=ttl, name=name):
            self.assertEqual(make_set(name, kind, ttl, [value]), (name, kind, ttl, (value,)))

    def assert_bad(self, kind, value):
        with self.subTest(kind=kind, value=value):
            self.assertRaises(BadRecord, make_set, OWNER, kind, 60, [value])
            # One wrong value among good ones is enough.
            good = ONE_VALUE[kind]
            self.assertRaises(BadRecord, make_set, OWNER, kind, 60, [good, value])
            self.assertRaises(BadRecord, make_set, OWNER, kind, 60, [value, good])


class KindsTest(RecordsTest):
    def test_the_nine_kinds_in_order(self):
        self.assertEqual(KINDS, (
            "address", "text", "mail", "alias", "server", "start", "key", "link", "gap"))
        self.assertIs(type(KINDS), tuple)

    def test_each_kind_makes_a_set(self):
        for kind in KINDS:
            self.assert_good(kind, ONE_VALUE[kind])

    def test_an_unknown_kind(self):
        for kind in ("", "Address", "addres", "addresses", "address ", "gaps", "mx", "*"):
            with self.subTest(kind=kind):
                self.assertRaises(BadRecord, make_set, OWNER, kind, 60, [5])
                self.assertRaises(BadRecord, make_set, OWNER, kind, 60, [])


class ValuesTest(RecordsTest):
    def test_words(self):
        for kind in WORD_KINDS:
            for value in (0, 1, 65536, LAST - 1, LAST):
                self.assert_good(kind, value)
            for value in (-1, LAST + 1, -LAST, 2 ** 70):
                self.assert_bad(kind, value)

    def test_starts(self):
        for value in ((0, 0), (LAST, 0), (0, LAST), (LAST, LAST), (2, 1)):
            self.assert_good("start", value)
        for value in ((-1, 0), (0, -1), (LAST + 1, 0), (0, LAST + 1), (-1, LAST + 1)):
            with self.subTest(value=value):
                self.assertRaises(BadRecord, make_set, OWNER, "start", 60, [value])

    def test_length_of_texts(self):
        for length in (0, 1, 59, 60):
            self.assert_good("text", "x" * length)
            self.assert_good("text", " " * length)
        for length in (61, 62, 255, 256):
            self.assert_bad("text", "x" * length)
            self.assert_bad("text", " " * length)

    def test_characters_of_texts(self):
        for code in range(32, 127):
            if chr(code) != "%":
                self.assert_good("text", chr(code))
                self.assert_good("text", "a" + chr(code) + "b")
        for character in ("%", "\n", "\t", "\x00", "\x1f", "\x7f", "\u00e4", "\u2003"):
            self.assert_bad("text", character)
            self.assert_bad("text", "a" + character)

    def test_mail_numbers(self):
        for number in (0, 1, 65534, 65535):
            self.assert_good("mail", (number, ("a",)))
        for number in (-1, 65536, LAST, -65535):
            self.assert_bad("mail", (number, ("a",)))

    def test_names_in_values(self):
        for name in NAMES:
            self.assert_good("alias", name)
            self.assert_good("server", name)
            self.assert_good("mail", (7, name))
            self.assert_good("gap", (name, ("gap",)))
        for name in NO_NAMES:
            self.assert_bad("alias", name)
            self.assert_bad("server", name)
            self.assert_bad("mail", (7, name))
            self.assert_bad("gap", (name, ("gap",)))

    def test_kinds_of_a_gap(self):
        for count in range(10):
            for kinds in itertools.combinations(KINDS, count):
                self.assertEqual(
                    make_set(OWNER, "gap", 60, [((), kinds)]), (OWNER, "gap", 60, (((), kinds),)))

    def test_kinds_of_a_gap_out_of_order(self):
        for first, second in itertools.combinations(KINDS, 2):
            self.assert_bad("gap", ((), (second, first)))
        self.assert_bad("gap", ((), KINDS[::-1]))
        self.assert_bad("gap", ((), tuple(sorted(KINDS))))
        self.assert_bad("gap", ((), ("address", "mail", "text", "gap")))

    def test_kinds_of_a_gap_that_are_double(self):
        for kind in KINDS:
            self.assert_bad("gap", ((), (kind, kind)))
        self.assert_bad("gap", ((), ("address", "text", "text")))
        self.assert_bad("gap", ((), ("text", "address", "text")))
        self.assert_bad("gap", ((), KINDS + ("gap",)))

    def test_kinds_of_a_gap_that_are_unknown(self):
        for kind in ("", "Text", "mx", "addres", "*"):
            self.assert_bad("gap", ((), (kind,)))
            self.assert_bad("gap", ((), ("address", kind)))
            self.assert_bad("gap", ((), KINDS + (kind,)))


class LifetimeTest(RecordsTest):
    def test_lifetimes(self):
        for kind in KINDS:
            for ttl in (0, 1, LAST):
                self.assert_good(kind, ONE_VALUE[kind], ttl=ttl)
            for ttl in (-1, LAST + 1, 2 ** 70):
                with self.subTest(kind=kind, ttl=ttl):
                    self.assertRaises(BadRecord, make_set, OWNER, kind, ttl, [ONE_VALUE[kind]])


class OwnerTest(RecordsTest):
    def test_owners(self):
        for name in NAMES:
            for kind in KINDS:
                self.assert_good(kind, ONE_VALUE[kind], name=name)

    def test_owners_that_are_no_names(self):
        for name in NO_NAMES:
            for kind in KINDS:
                with self.subTest(name=name, kind=kind):
                    self.assertRaises(BadName, make_set, name, kind, 60, [ONE_VALUE[kind]])


class OrderOfValuesTest(RecordsTest):
    def assert_values(self, kind, values, expected):
        with self.subTest(kind=kind, values=values):
            self.assertEqual(make_set(OWNER, kind, 60, values), (OWNER, kind, 60, expected))

    def test_values_out_of_order_and_double(self):
        for kind in WORD_KINDS:
            self.assert_values(kind, [10, 9, LAST, 0, 9, 100, 0], (0, 9, 10, 100, LAST))
        self.assert_values("text", ["b", "", "a", "B", "ab", " ", "a"], ("", " ", "B", "a", "ab", "b"))
        self.assert_values(
            "mail", [(10, ("a",)), (9, ("b",)), (10, ()), (9, ("b",)), (9, ("a", "z"))],
            ((9, ("a", "z")), (9, ("b",)), (10, ()), (10, ("a",))))
        self.assert_values(
            "server", [("b",), ("a-",), ("a", "z"), (), ("a",), ("b",), ("*",), ("a",)],
            ((), ("*",), ("a",), ("a", "z"), ("a-",), ("b",)))

    def test_every_order_gives_the_same_set(self):
        for values in itertools.permutations([3, 1, 2, 1]):
            self.assert_values("address", list(values), (1, 2, 3))

    def test_one_value_given_twice(self):
        for kind in KINDS:
            value = ONE_VALUE[kind]
            self.assert_values(kind, [value, value], (value,))
            self.assert_values(kind, [value] * 200, (value,))


class NumberOfValuesTest(RecordsTest):
    def many(self, kind, count):
        if kind == "text":
            return [str(1000 + number) for number in range(count)]
        if kind == "mail":
            return [(7, (str(1000 + number),)) for number in range(count)]
        if kind == "server":
            return [(str(1000 + number),) for number in range(count)]
        return list(range(count))

    def test_no_values(self):
        for kind in KINDS:
            with self.subTest(kind=kind):
                self.assertRaises(BadRecord, make_set, OWNER, kind, 60, [])

    def test_up_to_100_different_values(self):
        for kind in ("address", "text", "mail", "server", "key", "link"):
            for count in (1, 2, 99, 100):
                values = self.many(kind, count)
                with self.subTest(kind=kind, count=count):
                    made = make_set(OWNER, kind, 60, values[::-1])
                    self.assertEqual(made, (OWNER, kind, 60, tuple(values)))
            for count in (101, 102, 200):
                with self.subTest(kind=kind, count=count):
                    self.assertRaises(
                        BadRecord, make_set, OWNER, kind, 60, self.many(kind, count))

    def test_more_values_of_which_at_most_100_are_different(self):
        for kind in ("address", "text", "mail", "server", "key", "link"):
            values = self.many(kind, 100)
            with self.subTest(kind=kind):
                for listed in (values + values[:1], values + values, values[:60] * 3):
                    made = make_set(OWNER, kind, 60, listed)
                    self.assertEqual(made[3], tuple(values[:len(made[3])]))
                self.assertEqual(len(make_set(OWNER, kind, 60, values + values)[3]), 100)
                more = self.many(kind, 101)
                self.assertRaises(BadRecord, make_set, OWNER, kind, 60, more + more[:99])

    def test_two_different_values(self):
        for kind in KINDS:
            values = TWO_VALUES[kind]
            with self.subTest(kind=kind):
                if kind in ("alias", "start", "gap"):
                    self.assertRaises(BadRecord, make_set, OWNER, kind, 60, values)
                    self.assertRaises(BadRecord, make_set, OWNER, kind, 60, values * 2)
                else:
                    self.assertEqual(make_set(OWNER, kind, 60, values)[3], tuple(values))


class ErrorOrderTest(RecordsTest):
    def test_a_bad_owner_comes_first(self):
        for kind, ttl, values in (
            ("mx", 60, [5]), ("address", -1, [5]), ("address", 60, [-1]), ("address", 60, []),
            ("alias", 60, [("A",)]), ("alias", 60, [("a",), ("b",)]), ("mx", -1, []),
        ):
            with self.subTest(kind=kind, ttl=ttl, values=values):
                self.assertRaises(BadName, make_set, ("A",), kind, ttl, values)
                self.assertRaises(BadRecord, make_set, ("a",), kind, ttl, values)

    def test_a_name_in_a_value_that_is_none_is_a_bad_record(self):
        for kind, value in (("alias", ("A",)), ("server", ("",)), ("mail", (1, ("",)))):
            with self.subTest(kind=kind):
                self.assertRaises(BadRecord, make_set, OWNER, kind, 60, [value])

    def test_values_of_an_unknown_kind_are_not_looked_at(self):
        for values in ([5], ["a"], [(1, 2, 3)], [5, "a", ()]):
            with self.subTest(values=values):
                self.assertRaises(BadRecord, make_set, OWNER, "mx", 60, values)

    def test_a_bad_value_among_too_many_values(self):
        self.assertRaises(BadRecord, make_set, OWNER, "address", 60, list(range(-1, 150)))


class CopyTest(RecordsTest):
    def test_the_set_is_a_tuple_of_tuples_strings_and_integers(self):
        for kind in KINDS:
            made = make_set(OWNER, kind, 60, [ONE_VALUE[kind]])
            with self.subTest(kind=kind):
                self.assertEqual([type(part) for part in made], [tuple, str, int, tuple])
                self.assertEqual(kinds_within(made) - {tuple, str, int}, set())

    def test_the_passed_list_stays_as_it_was(self):
        for values in ([3, 1, 2, 1], list(range(100, 0, -1))):
            before = list(values)
            make_set(OWNER, "address", 60, values)
            self.assertEqual(values, before)

    def test_the_passed_list_stays_as_it_was_if_an_error_is_raised(self):
        for values in ([3, -1, 3], list(range(150, 0, -1))):
            before = list(values)
            self.assertRaises(BadRecord, make_set, OWNER, "address", 60, values)
            self.assertEqual(values, before)

    def test_a_later_change_of_the_list_changes_nothing(self):
        values = [3, 1, 2]
        made = make_set(OWNER, "address", 60, values)
        values.append(4)
        values[0] = 9
        self.assertEqual(made, (OWNER, "address", 60, (1, 2, 3)))
        values.clear()
        self.assertEqual(made, (OWNER, "address", 60, (1, 2, 3)))

    def test_equal_calls_give_equal_sets(self):
        self.assertEqual(
            make_set(OWNER, "text", 60, ["b", "a"]), make_set(OWNER, "text", 60, ["a", "b", "a"]))


class ModuleTest(unittest.TestCase):
    def test_the_interface_is_defined_in_this_module(self):
        self.assertEqual(make_set.__module__, "provenames.records")
        self.assertIs(records.KINDS, KINDS)

    def test_arguments_have_the_names_of_the_interface(self):
        made = make_set(values=[5], ttl=60, kind="address", name=("a",))
        self.assertEqual(made, (("a",), "address", 60, (5,)))


def kinds_within(value):
    found = {type(value)}
    if isinstance(value, tuple):
        for part in value:
            found |= kinds_within(part)
    return found


if __name__ == "__main__":
    unittest.main()
