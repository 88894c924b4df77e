import unittest

from provenames.notary import Notary, Signer

CONTENT = ("a", 1, ("b", 2, ()))


def nested(depth, core):
    content = (core,)
    for _ in range(depth - 1):
        content = (content,)
    return content


class SignersTest(unittest.TestCase):
    def test_keys_count_from_0_in_each_notary(self):
        notary = Notary()
        self.assertEqual([notary.new_signer().key for _ in range(30)], list(range(30)))
        other = Notary()
        self.assertEqual(other.new_signer().key, 0)
        self.assertEqual(notary.new_signer().key, 30)
        self.assertEqual(other.new_signer().key, 1)

    def test_a_signer_is_a_signer_with_a_key_that_is_a_property(self):
        signer = Notary().new_signer()
        self.assertIsInstance(signer, Signer)
        self.assertIsInstance(vars(Signer)["key"], property)
        self.assertIs(type(signer.key), int)

    def test_signing_changes_no_key_and_creating_signs_nothing(self):
        notary = Notary()
        first = notary.new_signer()
        second = notary.new_signer()
        self.assertEqual(len(notary), 0)
        second.sign(CONTENT)
        first.sign(CONTENT)
        self.assertEqual((first.key, second.key, notary.new_signer().key), (0, 1, 2))


class NumbersTest(unittest.TestCase):
    def test_numbers_count_from_0_whichever_signer_signs(self):
        notary = Notary()
        signers = [notary.new_signer() for _ in range(3)]
        for number, place in enumerate([2, 0, 0, 1, 2, 1, 0]):
            self.assertEqual(len(notary), number)
            self.assertEqual(signers[place].sign((number,)), number)
        self.assertEqual(len(notary), 7)

    def test_equal_contents_get_new_numbers(self):
        signer = Notary().new_signer()
        self.assertEqual([signer.sign(CONTENT) for _ in range(4)], [0, 1, 2, 3])

    def test_each_notary_counts_for_itself(self):
        notary, other = Notary(), Notary()
        signer, other_signer = notary.new_signer(), other.new_signer()
        self.assertEqual(signer.sign(CONTENT), 0)
        self.assertEqual(signer.sign(CONTENT), 1)
        self.assertEqual(other_signer.sign(CONTENT), 0)
        self.assertEqual((len(notary), len(other)), (2, 1))


class HoldsTest(unittest.TestCase):
    def setUp(self):
        self.notary = Notary()
        self.signers = [self.notary.new_signer() for _ in range(3)]

    def test_each_key_content_and_number(self):
        contents = [("a",), ("b",), ("a",), ("c", 1), ("b",)]
        keys = [0, 1, 1, 0, 2]
        for key, content in zip(keys, contents):
            self.signers[key].sign(content)
        numbers = [-100, -6, -5, -4, -3, -2, -1, 0, 1, 2, 3, 4, 5, 6, 100, 2 ** 32, -2 ** 70, 2 ** 70]
        tried = [-2, -1, 0, 1, 2, 3, 4, 2 ** 32, 2 ** 70]
        for number in numbers:
            for key in tried:
                for content in (("a",), ("b",), ("c", 1), ("d",), ()):
                    right = (0 <= number < 5 and keys[number] == key and contents[number] == content)
                    with self.subTest(number=number, key=key, content=content):
                        self.assertIs(self.notary.holds(key, content, number), right)
        self.assertEqual(len(self.notary), 5)

    def test_a_notary_without_signings_holds_nothing(self):
        for number in (-1, 0, 1):
            self.assertIs(self.notary.holds(0, (), number), False)

    def test_content_signed_later_is_not_held_before(self):
        self.assertIs(self.notary.holds(0, CONTENT, 0), False)
        self.signers[0].sign(CONTENT)
        self.assertIs(self.notary.holds(0, CONTENT, 0), True)
        self.assertIs(self.notary.holds(0, CONTENT, 1), False)

    def test_another_signer_number_or_notary(self):
        other = Notary()
        other.new_signer().sign(("else",))
        self.assertEqual(self.signers[1].sign(CONTENT), 0)
        self.assertIs(self.notary.holds(1, CONTENT, 0), True)
        self.assertIs(self.notary.holds(0, CONTENT, 0), False)
        self.assertIs(self.notary.holds(2, CONTENT, 0), False)
        self.assertIs(other.holds(1, CONTENT, 0), False)
        self.assertIs(other.holds(0, CONTENT, 0), False)

    def assert_apart(self, contents):
        """Each content is held under its own number only."""
        notary = Notary()
        signer = notary.new_signer()
        for content in contents:
            signer.sign(content)
        for number in range(len(contents)):
            for place, content in enumerate(contents):
                with self.subTest(signed=contents[number], asked=content):
                    self.assertIs(notary.holds(0, content, number), place == number)

    def test_contents_that_differ(self):
        self.assert_apart([
            (), ((),), ((), ()), (((),),), ("",), ("", ""), (" ",),
            (1,), ("1",), (1, 2), (2, 1), ("1", 2), ("12",), (12,), ((1, 2),), ((1,), 2), (1, (2,)),
            ((1,), (2,)), (1, 2, ()), (-1,), ("-1",), ("a", "b"), ("b", "a"), ("ab",), ("A", "b"),
            ("a", "b", 0), ("a", "b", "0"), (("a", "b"),), (("a",), "b"),
            ("(1, 2)",), ("1, 2",), ("'a'",), ("a,b",), ("a", "b,"),
        ])

    def test_large_integers(self):
        self.assert_apart([
            (2 ** 32,), (2 ** 32 - 1,), (2 ** 64,), (2 ** 64 + 1,), (2 ** 64 - 1,), (-2 ** 64,), (0,),
            (2 ** 61 - 1,), (2 ** 200,), (2 ** 200 + 1,), (str(2 ** 64),),
        ])

    def test_deep_contents(self):
        self.assert_apart([
            nested(depth, core) for depth in range(1, 13) for core in (1, "1", 2, "")])

    def test_equal_contents_that_are_different_objects(self):
        parts = ["x" * 3, 2 ** 40]
        self.signers[0].sign((parts[0], (parts[1], ())))
        self.assertIs(self.notary.holds(0, ("xx" + "x", (2 ** 39 * 2, ())), 0), True)

    def test_the_empty_tuple(self):
        self.assertEqual(self.signers[2].sign(()), 0)
        self.assertIs(self.notary.holds(2, (), 0), True)
        self.assertIs(self.notary.holds(2, ((),), 0), False)

    def test_asking_signs_nothing(self):
        self.signers[0].sign(CONTENT)
        for number in (-1, 0, 1):
            self.notary.holds(0, CONTENT, number)
        self.assertEqual(len(self.notary), 1)
        self.assertEqual(self.signers[0].sign(CONTENT), 1)


if __name__ == "__main__":
    unittest.main()
