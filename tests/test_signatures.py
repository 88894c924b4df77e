import unittest

from provenames.notary import Notary
from provenames.records import KINDS, make_set
from provenames.signatures import is_valid, sign_set

LAST = 4294967295
ZONE = ("org",)
RECORD_SET = make_set(("org", "tree"), "address", 60, [3, 5])


class SigningTest(unittest.TestCase):
    def setUp(self):
        self.notary = Notary()
        self.signers = [self.notary.new_signer() for _ in range(3)]

    def test_the_signature_is_a_tuple_with_the_number(self):
        signature = sign_set(self.signers[0], RECORD_SET, zone=ZONE, edition=7, start=10, end=20)
        self.assertEqual(signature, (("org",), 0, 7, 10, 20, 0))
        self.assertIs(type(signature), tuple)
        signature = sign_set(self.signers[2], RECORD_SET, zone=(), edition=LAST, start=0, end=LAST)
        self.assertEqual(signature, ((), 2, LAST, 0, LAST, 1))
        signature = sign_set(self.signers[0], RECORD_SET, zone=("*",), edition=0, start=9, end=8)
        self.assertEqual(signature, (("*",), 0, 0, 9, 8, 2))
        self.assertEqual(len(self.notary), 3)

    def test_the_content_that_is_signed(self):
        self.signers[0].sign(("before",))
        sign_set(self.signers[1], RECORD_SET, zone=ZONE, edition=7, start=10, end=20)
        self.assertIs(self.notary.holds(1, (ZONE, 7, 10, 20, RECORD_SET), 1), True)
        self.assertIs(self.notary.holds(1, RECORD_SET, 1), False)
        self.assertIs(self.notary.holds(1, (ZONE, 7, 20, 10, RECORD_SET), 1), False)
        self.assertIs(self.notary.holds(1, (ZONE, 10, 7, 20, RECORD_SET), 1), False)
        self.assertIs(self.notary.holds(0, (ZONE, 7, 10, 20, RECORD_SET), 1), False)

    def test_arguments_by_keyword_only(self):
        with self.assertRaises(TypeError):
            sign_set(self.signers[0], RECORD_SET, ZONE, 7, 10, 20)
        self.assertEqual(len(self.notary), 0)


class ValidityTest(unittest.TestCase):
    def setUp(self):
        self.notary = Notary()
        self.notary.new_signer()
        self.signer = self.notary.new_signer()

    def signed(self, start, end, record_set=RECORD_SET):
        return sign_set(self.signer, record_set, zone=ZONE, edition=7, start=start, end=end)

    def assert_valid(self, signature, time, right, record_set=RECORD_SET):
        with self.subTest(signature=signature, time=time, record_set=record_set):
            self.assertIs(is_valid(self.notary, signature, record_set, time), right)

    def test_times(self):
        signature = self.signed(10, 20)
        for time in (10, 11, 15, 19, 20):
            self.assert_valid(signature, time, True)
        for time in (0, 8, 9, 21, 22, LAST, -1, LAST + 1):
            self.assert_valid(signature, time, False)

    def test_the_first_and_the_last_time(self):
        always = self.signed(0, LAST)
        for time in (0, 1, LAST - 1, LAST):
            self.assert_valid(always, time, True)
        only_first = self.signed(0, 0)
        only_last = self.signed(LAST, LAST)
        for time in (0, 1, LAST - 1, LAST):
            self.assert_valid(only_first, time, time == 0)
            self.assert_valid(only_last, time, time == LAST)

    def test_a_start_that_is_the_end(self):
        signature = self.signed(15, 15)
        for time in (13, 14, 15, 16, 17):
            self.assert_valid(signature, time, time == 15)

    def test_an_end_before_the_start(self):
        signature = self.signed(20, 10)
        for time in (9, 10, 11, 15, 19, 20, 21):
            self.assert_valid(signature, time, False)

    def test_each_kind_of_record_set(self):
        values = {
            "address": [1, 2], "text": ["1", "2"], "mail": [(1, ("a",))], "alias": [("a",)],
            "server": [("a",), ("b",)], "start": [(1, 2)], "key": [1], "link": [1, 2],
            "gap": [(("a",), ("text", "gap"))],
        }
        made = [make_set(("org",), kind, 60, values[kind]) for kind in KINDS]
        signatures = [self.signed(10, 20, record_set) for record_set in made]
        for record_set in made:
            for signed_set, signature in zip(made, signatures):
                self.assert_valid(signature, 15, record_set == signed_set, record_set)

    def test_each_field_replaced(self):
        self.signed(10, 20, make_set(("org",), "text", 60, ["x"]))
        signature = self.signed(10, 20)
        self.assertEqual(signature, (ZONE, 1, 7, 10, 20, 1))
        self.assert_valid(signature, 15, True)
        others = [
            [(), ("org", "a"), ("or",), ("*",), ("org", "*")], [0, 2, -1, LAST], [6, 8, 0, LAST],
            [9, 11, 0], [19, 21, LAST], [0, 2, -1, -2, 3, LAST],
        ]
        for place, values in enumerate(others):
            for value in values:
                changed = signature[:place] + (value,) + signature[place + 1:]
                self.assert_valid(changed, 15, False)

    def test_each_part_of_the_record_set_replaced(self):
        owner, kind, ttl, values = RECORD_SET
        signature = self.signed(10, 20)
        for changed in (
            (("org",), kind, ttl, values), (("org", "tree", "a"), kind, ttl, values),
            (("org", "*"), kind, ttl, values), (("tree", "org"), kind, ttl, values),
            (owner, "key", ttl, values), (owner, "link", ttl, values),
            (owner, kind, 59, values), (owner, kind, 61, values), (owner, kind, 0, values),
            (owner, kind, ttl, (3,)), (owner, kind, ttl, (5,)), (owner, kind, ttl, (3, 4, 5)),
            (owner, kind, ttl, (3, 5, 6)), (owner, kind, ttl, (3, 6)), (owner, kind, ttl, (2, 5)),
            (owner, kind, ttl, (5, 3)), (owner, kind, ttl, ("3", "5")), (owner, kind, ttl, ()),
        ):
            self.assert_valid(signature, 15, False, changed)
        self.assert_valid(signature, 15, True, (owner, kind, ttl, values))

    def test_other_contents_under_a_right_looking_signature(self):
        contents = [
            RECORD_SET, (ZONE, 7, 10, 20), (ZONE, 7, 10, 20, RECORD_SET, ()),
            (ZONE, 1, 7, 10, 20, RECORD_SET), (ZONE, 7, 10, 20) + RECORD_SET, (RECORD_SET,),
            ((ZONE, 7, 10, 20, RECORD_SET),), (RECORD_SET, ZONE, 7, 10, 20), (7, 10, 20, RECORD_SET),
            (ZONE, 10, 20, RECORD_SET), (ZONE, 7, 10, RECORD_SET), (ZONE, 7, 20, 10, RECORD_SET),
            (("org",), "7", 10, 20, RECORD_SET),
        ]
        for content in contents:
            number = self.signer.sign(content)
            self.assert_valid((ZONE, 1, 7, 10, 20, number), 15, False)
        number = self.signer.sign((ZONE, 7, 10, 20, RECORD_SET))
        self.assert_valid((ZONE, 1, 7, 10, 20, number), 15, True)

    def test_another_notary(self):
        signature = self.signed(10, 20)
        other = Notary()
        self.assertIs(is_valid(other, signature, RECORD_SET, 15), False)
        other.new_signer().sign((ZONE, 7, 10, 20, RECORD_SET))
        self.assertIs(is_valid(other, signature, RECORD_SET, 15), False)

    def test_the_notary_itself_is_used(self):
        signature = (ZONE, 1, 7, 10, 20, 0)
        self.assert_valid(signature, 15, False)
        self.signed(10, 20)
        self.assert_valid(signature, 15, True)

    def test_asking_changes_no_number_of_signings(self):
        signature = self.signed(10, 20)
        for time in (9, 10, 21):
            is_valid(self.notary, signature, RECORD_SET, time)
        self.assertEqual(len(self.notary), 1)
        self.assertEqual(self.signed(10, 20)[5], 1)


if __name__ == "__main__":
    unittest.main()
