import random
import unittest

from provenames.edition import publish
from provenames.errors import BadOctets
from provenames.lookup import evidence, outcome
from provenames.messages import read_question, read_reply, write_question, write_reply
from provenames.notary import Notary
from provenames.records import KINDS
from tests.zones import NAMES, mixed_zone

LAST = 4294967295
ASKED = tuple(kind for kind in KINDS if kind != "gap")
CODES = ("data", "alias", "nodata", "noname", "referral", "refused")
TWELVE = ("a", "b", "c", "d", "e", "f", "g", "h", "i", "j", "k", "l")
ALL_CHARACTERS = "".join(chr(code) for code in range(32, 127) if code != 37)
GOOD_NAMES = [
    (), ("a",), ("*",), ("org", "tree"), ("org", "*"), ("x" * 20,), ("-", "0", "z9-"), TWELVE,
    TWELVE[:11] + ("*",), ("x" * 20,) * 12, ("abcdefghijklmnopqrst", "uvwxyz0123456789-"),
]
NO_NAMES = [
    TWELVE + ("m",), ("",), ("a", ""), ("", "a"), ("x" * 21,), ("a", "x" * 21), ("*", "a"), ("*", "*"),
    ("a", "*", "b"), ("a*",), ("**",), ("A",), ("a", "B"), ("a_",), ("a.b",), ("a b",), (" ",), ("a%",),
    ("a\n",), ("a\x7f",), ("a\x00",), ("\xff",), ("a/",), ("a:",), ("`",), ("{",), ("@",), ("[",), (",",),
]
SIGNATURE = (("org",), 1, 2, 3, 4, 5)


def octets_of_word(word):
    return list(word.to_bytes(4, "big"))


def octets_of_text(text):
    return [len(text)] + [ord(character) for character in text]


def octets_of_name(name):
    return [len(name)] + [octet for label in name for octet in octets_of_text(label)]


def octets_of_set(owner, place, values, ttl=60):
    """A record set; the values are lists of octets."""
    octets = octets_of_name(owner) + [place] + octets_of_word(ttl) + [len(values)]
    return octets + [octet for value in values for octet in value]


def octets_of_signature(signature):
    return octets_of_name(signature[0]) + [
        octet for word in signature[1:] for octet in octets_of_word(word)]


def reply_of(place, *signed_sets):
    """A reply; the signed sets are lists of octets."""
    return [place, len(signed_sets) // 256, len(signed_sets) % 256] + [
        octet for signed_set in signed_sets for octet in signed_set]


def one_set(octets, *signatures):
    """A reply with one signed set, which has the octets of its record set."""
    signed = octets + [len(signatures)] + [
        octet for signature in signatures for octet in octets_of_signature(signature)]
    return reply_of(0, signed)


class MessagesTest(unittest.TestCase):
    def assert_question(self, octets, question):
        with self.subTest(question=question):
            self.assertEqual(write_question(*question), octets)
            self.assertIs(type(write_question(*question)), list)
            self.assertEqual(read_question(octets), question)

    def assert_reply(self, octets, reply):
        with self.subTest(reply=reply):
            self.assertEqual(write_reply(reply), octets)
            self.assertEqual(read_reply(octets), reply)

    def assert_record_set(self, octets, record_set):
        self.assert_reply(one_set(octets), ("data", ((record_set, ()),)))

    def assert_bad(self, read, octets):
        with self.subTest(octets=octets):
            before = list(octets)
            with self.assertRaises(BadOctets) as caught:
                read(octets)
            self.assertIs(type(caught.exception), BadOctets)
            self.assertEqual(octets, before)

    def assert_bad_question(self, octets):
        self.assert_bad(read_question, octets)

    def assert_bad_reply(self, octets):
        self.assert_bad(read_reply, octets)

    def assert_bad_set(self, octets):
        self.assert_bad_reply(one_set(octets))


class QuestionTest(MessagesTest):
    def test_the_example_of_the_document(self):
        self.assert_question([0, 1, 1, 97, 1], ((), ("a",), "text"))

    def test_the_parts_in_order(self):
        self.assert_question([1, 3, 111, 114, 103, 2, 3, 111, 114, 103, 1, 42, 4],
                             (("org",), ("org", "*"), "server"))
        self.assert_question([1, 1, 42, 0, 0], (("*",), (), "address"))

    def test_kinds(self):
        for place, kind in enumerate(ASKED):
            self.assert_question([0, 0, place], ((), (), kind))

    def test_names(self):
        for name in GOOD_NAMES:
            for zone in GOOD_NAMES:
                self.assert_question(octets_of_name(zone) + octets_of_name(name) + [7], (zone, name, "link"))

    def test_the_kind_gap_and_unknown_kinds(self):
        for place in (8, 9, 10, 16, 128, 255):
            self.assert_bad_question([0, 1, 1, 97, place])
            self.assert_bad_question([0, 0, place])

    def test_what_is_no_name(self):
        for name in NO_NAMES:
            self.assert_bad_question([0] + octets_of_name(name) + [1])
            self.assert_bad_question(octets_of_name(name) + [0, 1])
            self.assert_bad_question(octets_of_name(name) * 2 + [1])

    def test_octets_missing_and_left_over(self):
        self.assert_bad_question([])
        octets = write_question(("org",), ("org", "tree", "*"), "text")
        for count in range(len(octets)):
            self.assert_bad_question(octets[:count])
        for more in ([0], [1], [255], [-1], [256], [0] * 10, octets):
            self.assert_bad_question(octets + more)

    def test_integers_that_are_no_octets(self):
        octets = write_question(("org",), ("org", "tree", "*"), "text")
        for place in range(len(octets)):
            for octet in (-1, 256, -256, 2 ** 70, -2 ** 70, octets[place] + 256, octets[place] - 256):
                self.assert_bad_question(octets[:place] + [octet] + octets[place + 1:])
        for place in range(9):
            self.assert_bad_question([0, 0, place - 9])
        self.assert_bad_question([0, -1, 1])

    def test_writing_beyond_the_limits_raises_no_error(self):
        for name in (TWELVE + ("m",), ("x" * 21,)):
            octets = write_question(name, name, "text")
            self.assertEqual(octets, octets_of_name(name) * 2 + [1])
            self.assert_bad_question(octets)
        self.assert_bad_question(write_question((), (), "gap"))


class RecordSetTest(MessagesTest):
    def test_words(self):
        for kind in ("address", "key", "link"):
            place = KINDS.index(kind)
            words = [0, 1, 255, 256, 65536, 16777216, 16909060, LAST - 1, LAST]
            for word in words:
                self.assert_record_set(octets_of_set(("a",), place, [octets_of_word(word)]),
                                       (("a",), kind, 60, (word,)))
            self.assert_record_set(octets_of_set(("a",), place, [octets_of_word(word) for word in words]),
                                   (("a",), kind, 60, tuple(words)))
        self.assert_record_set([0, 0, 0, 0, 0, 60, 1, 1, 2, 3, 4], ((), "address", 60, (16909060,)))

    def test_lifetimes(self):
        for ttl in (0, 1, 16909060, LAST):
            self.assert_record_set(octets_of_set((), 0, [[0, 0, 0, 1]], ttl), ((), "address", ttl, (1,)))

    def test_owners(self):
        for name in GOOD_NAMES:
            for kind, place in (("address", 0), ("key", 6), ("link", 7)):
                self.assert_record_set(octets_of_set(name, place, [[0, 0, 0, 1]]), (name, kind, 60, (1,)))
        for name in NO_NAMES:
            self.assert_bad_set(octets_of_set(name, 0, [[0, 0, 0, 1]]))

    def test_texts(self):
        for text in ("", " ", "a", "~", "Oak tree", "x" * 59, "x" * 60, ALL_CHARACTERS[:60],
                     ALL_CHARACTERS[34:], "\\\"'", "&", "$", "0"):
            self.assert_record_set(octets_of_set((), 1, [octets_of_text(text)]), ((), "text", 60, (text,)))
        for character in ALL_CHARACTERS:
            octets = octets_of_set((), 1, [[1, ord(character)]])
            self.assert_record_set(octets, ((), "text", 60, (character,)))
        self.assert_record_set(octets_of_set((), 1, [[0], [1, 97], [2, 97, 97], [1, 98]]),
                               ((), "text", 60, ("", "a", "aa", "b")))

    def test_what_is_no_text(self):
        for length in (61, 62, 127, 128, 255):
            self.assert_bad_set(octets_of_set((), 1, [[length] + [97] * length]))
        for code in list(range(32)) + [37] + list(range(127, 256)):
            for text in ([code], [97, code], [code, 97], [97] * 59 + [code]):
                self.assert_bad_set(octets_of_set((), 1, [[len(text)] + text]))

    def test_mails(self):
        for number, octets in ((0, [0, 0]), (1, [0, 1]), (256, [1, 0]), (258, [1, 2]), (65535, [255, 255])):
            for name in GOOD_NAMES:
                self.assert_record_set(octets_of_set((), 2, [octets + octets_of_name(name)]),
                                       ((), "mail", 60, ((number, name),)))
        self.assert_record_set(
            octets_of_set((), 2, [[0, 1, 1, 1, 98], [0, 2, 0], [0, 2, 1, 1, 97]]),
            ((), "mail", 60, ((1, ("b",)), (2, ()), (2, ("a",)))))
        for name in NO_NAMES:
            self.assert_bad_set(octets_of_set((), 2, [[0, 1] + octets_of_name(name)]))

    def test_names_as_values(self):
        for kind in ("alias", "server"):
            place = KINDS.index(kind)
            for name in GOOD_NAMES:
                self.assert_record_set(octets_of_set(("a",), place, [octets_of_name(name)]),
                                       (("a",), kind, 60, (name,)))
            for name in NO_NAMES:
                self.assert_bad_set(octets_of_set(("a",), place, [octets_of_name(name)]))
        names = [(), ("*",), ("a",), ("a", "b"), ("a-",), ("aa",)]
        self.assert_record_set(octets_of_set((), 4, [octets_of_name(name) for name in names]),
                               ((), "server", 60, tuple(names)))

    def test_starts(self):
        for start in ((0, 0), (1, 2), (LAST, 0), (0, LAST), (16909060, 84281096)):
            self.assert_record_set(octets_of_set((), 5, [octets_of_word(start[0]) + octets_of_word(start[1])]),
                                   ((), "start", 60, (start,)))

    def test_gaps(self):
        for number in range(512):
            kinds = tuple(kind for place, kind in enumerate(KINDS) if number // 2 ** place % 2 == 1)
            self.assert_record_set(octets_of_set((), 8, [[1, 1, 97, number // 256, number % 256]]),
                                   ((), "gap", 60, ((("a",), kinds),)))
        self.assert_record_set(octets_of_set((), 8, [[0, 1, 34]]),
                               ((), "gap", 60, (((), ("text", "start", "gap")),)))
        for name in GOOD_NAMES:
            self.assert_record_set(octets_of_set((), 8, [octets_of_name(name) + [1, 255]]),
                                   ((), "gap", 60, ((name, KINDS),)))

    def test_what_is_no_gap(self):
        for high in (2, 3, 4, 8, 16, 32, 64, 128, 255):
            for low in (0, 1, 255):
                self.assert_bad_set(octets_of_set((), 8, [[0, high, low]]))
        for name in NO_NAMES:
            self.assert_bad_set(octets_of_set((), 8, [octets_of_name(name) + [1, 0]]))

    def test_unknown_kinds(self):
        for place in (9, 10, 127, 255):
            for value in ([0], [0, 0, 0, 0], [0, 1, 0]):
                self.assert_bad_set(octets_of_set((), place, [value]))

    def values_of(self, kind, count):
        """So many different values of the kind in ascending order, each as octets and as a value."""
        if kind == "text":
            values = [f"{number:03}" for number in range(count)]
            return [octets_of_text(value) for value in values], tuple(values)
        if kind == "mail":
            values = [(number, ("a",)) for number in range(count)]
            return [[0, number, 1, 1, 97] for number in range(count)], tuple(values)
        if kind in ("server", "alias"):
            values = [(f"{number:03}",) for number in range(count)]
            return [octets_of_name(value) for value in values], tuple(values)
        if kind == "start":
            values = [(number, 1) for number in range(count)]
            return [[0, 0, 0, number, 0, 0, 0, 1] for number in range(count)], tuple(values)
        if kind == "gap":
            values = [((f"{number:03}",), ()) for number in range(count)]
            return [octets_of_name(value[0]) + [0, 0] for value in values], tuple(values)
        return [octets_of_word(number) for number in range(count)], tuple(range(count))

    def test_numbers_of_values(self):
        for place, kind in enumerate(KINDS):
            most = 1 if kind in ("alias", "start", "gap") else 100
            for count in (0, 1, 2, 99, 100, 101, 255):
                octets, values = self.values_of(kind, count)
                if 1 <= count <= most:
                    self.assert_record_set(octets_of_set((), place, octets), ((), kind, 60, values))
                else:
                    self.assert_bad_set(octets_of_set((), place, octets))

    def test_values_out_of_order_and_double(self):
        for place, kind in enumerate(KINDS):
            octets, _ = self.values_of(kind, 3)
            for order in ([1, 0], [0, 0], [2, 1, 0], [0, 2, 1], [1, 0, 2], [0, 1, 1], [0, 0, 1], [0, 1, 2, 2],
                          [0, 1, 0]):
                self.assert_bad_set(octets_of_set((), place, [octets[k] for k in order]))
            octets, _ = self.values_of(kind, 100)
            self.assert_bad_set(octets_of_set((), place, octets + [octets[99]]))
            self.assert_bad_set(octets_of_set((), place, [octets[1], octets[0]] + octets[2:]))
        # The order of values is not that of their octets.
        self.assert_bad_set(octets_of_set((), 1, [[1, 98], [2, 97, 97]]))
        self.assert_bad_set(octets_of_set((), 4, [[1, 1, 98], [2, 1, 97, 1, 97]]))
        self.assert_bad_set(octets_of_set((), 2, [[0, 1, 1, 1, 97], [0, 1, 0]]))


class ReplyTest(MessagesTest):
    def test_the_example_of_the_document(self):
        self.assert_reply([5, 0, 0], ("refused", ()))

    def test_codes(self):
        octets = octets_of_set((), 1, [[1, 97]]) + [0]
        for place, code in enumerate(CODES):
            self.assert_reply([place, 0, 0], (code, ()))
            self.assert_reply(reply_of(place, octets), (code, ((((), "text", 60, ("a",)), ()),)))
        for place in (6, 7, 128, 255):
            self.assert_bad_reply([place, 0, 0])
            self.assert_bad_reply(reply_of(place, octets))

    def test_signatures(self):
        octets = octets_of_set((), 1, [[1, 97]])
        for signature in (
            SIGNATURE, ((), 0, 0, 0, 0, 0), (("*",), LAST, LAST, LAST, LAST, LAST),
            (("a", "*"), 16909060, 1, 9, 8, 0), (TWELVE, 256, 65536, 16777216, 255, LAST - 1),
        ):
            self.assert_reply(one_set(octets, signature),
                              ("data", ((((), "text", 60, ("a",)), (signature,)),)))
        self.assert_reply(
            [2, 0, 1, 0, 1, 0, 0, 0, 60, 1, 1, 97, 1, 1, 3, 111, 114, 103, 0, 0, 0, 1, 0, 0, 0, 2,
             0, 0, 0, 3, 0, 0, 0, 4, 0, 0, 0, 5], ("nodata", ((((), "text", 60, ("a",)), (SIGNATURE,)),)))
        for name in NO_NAMES:
            self.assert_bad_reply(one_set(octets, (name, 1, 2, 3, 4, 5)))

    def test_numbers_of_signatures(self):
        octets = octets_of_set((), 1, [[1, 97]])
        for count in (0, 1, 2, 19, 20):
            # The order of signatures is free, and one may stand twice.
            signatures = tuple((("a",), count - k // 2, 0, 0, 0, 0) for k in range(count))
            self.assert_reply(one_set(octets, *signatures),
                              ("data", ((((), "text", 60, ("a",)), signatures),)))
        for count in (21, 22, 255):
            self.assert_bad_reply(one_set(octets, *[SIGNATURE] * count))

    def test_numbers_of_signed_sets(self):
        octets = octets_of_set((), 1, [[1, 97]]) + [0]
        signed_set = (((), "text", 60, ("a",)), ())
        for count in (0, 1, 2, 199, 200):
            self.assert_reply(reply_of(1, *[octets] * count), ("alias", (signed_set,) * count))
        for count in (201, 202, 256, 257, 400):
            self.assert_bad_reply(reply_of(1, *[octets] * count))
        self.assert_bad_reply([1, 255, 255])

    def test_signed_sets_keep_their_order(self):
        sets = ((("b",), "text", 1, ("a",)), (("a",), "key", 2, (1,)), (("b",), "address", 3, (2, 3)))
        reply = ("noname", tuple((record_set, (SIGNATURE,) * k) for k, record_set in enumerate(sets)))
        octets = write_reply(reply)
        self.assertEqual(octets[:3], [3, 0, 3])
        self.assert_reply(octets, reply)

    def good_reply(self):
        """A reply with each kind of record set."""
        sets = (
            (("a",), "address", 1, (2, 3)), ((), "text", 2, ("", "A b")), ((), "mail", 3, ((1, ("a", "b")),)),
            (("*",), "alias", 4, (("a", "*"),)), ((), "server", 5, ((), ("a",))), ((), "start", 6, ((7, 8),)),
            ((), "key", 7, (9,)), ((), "link", 8, (10, 11)), ((), "gap", 9, ((("b",), ("text", "gap")),)))
        return ("referral", tuple((record_set, (SIGNATURE,) * (k % 3)) for k, record_set in enumerate(sets)))

    def test_octets_missing_and_left_over(self):
        self.assert_bad_reply([])
        for reply in (self.good_reply(), ("refused", ())):
            octets = write_reply(reply)
            self.assert_reply(octets, reply)
            for count in range(len(octets)):
                self.assert_bad_reply(octets[:count])
            for more in ([0], [255], [-1], [256], [0] * 30, octets):
                self.assert_bad_reply(octets + more)

    def test_an_octet_missing_or_more_inside(self):
        octets = write_reply(self.good_reply())
        for place in range(len(octets)):
            self.check_canonical(read_reply, write_reply, octets[:place] + octets[place + 1:])
            self.check_canonical(read_reply, write_reply, octets[:place] + [0] + octets[place:])

    def test_integers_that_are_no_octets(self):
        octets = write_reply(self.good_reply())
        for place in range(len(octets)):
            for octet in (-1, 256, -256, 2 ** 70, octets[place] + 256, octets[place] - 256):
                self.assert_bad_reply(octets[:place] + [octet] + octets[place + 1:])

    def check_canonical(self, read, write, octets):
        """What is read is written as just these octets; everything else is invalid."""
        try:
            found = read(list(octets))
        except BadOctets:
            return False
        self.assertEqual(write(found), octets)
        return True

    def test_each_octet_replaced(self):
        octets = write_reply(self.good_reply())
        tried = [*range(14), 20, 21, 31, 32, 37, 42, 45, 46, 57, 60, 61, 65, 96, 97, 98, 99, 122, 123,
                 126, 127, 128, 255]
        good = 0
        for place in range(len(octets)):
            for octet in tried:
                changed = octets[:place] + [octet] + octets[place + 1:]
                good += self.check_canonical(read_reply, write_reply, changed)
        self.assertGreater(good, len(octets))
        question = write_question(("org",), ("org", "a-0", "*"), "text")
        for place in range(len(question)):
            for octet in range(256):
                changed = question[:place] + [octet] + question[place + 1:]
                self.check_canonical(read_question, lambda found: write_question(*found), changed)

    def test_some_octets_mixed_at_random(self):
        chance = random.Random(1)
        octets = write_reply(self.good_reply())
        for _ in range(2000):
            changed = list(octets)
            for _ in range(chance.randrange(1, 4)):
                changed[chance.randrange(len(changed))] = chance.choice([0, 1, 2, 42, 97, 98, 255])
            self.check_canonical(read_reply, write_reply, changed)

    def test_replies_of_editions(self):
        codes = set()
        for seed in range(40):
            apex, _, zone, _ = mixed_zone(seed)
            notary = Notary()
            signers = [notary.new_signer() for _ in range(4)]
            edition = publish(zone, number=LAST, heads=signers[:1], signers=signers[1:], extra=[LAST],
                              start=0, end=LAST)
            for name in NAMES:
                for kind in ASKED:
                    found = outcome(edition, apex + name, kind)[0]
                    if found != "outside":
                        codes.add(found)
                        reply = (found, tuple(evidence(edition, apex + name, kind)))
                        self.assertEqual(read_reply(write_reply(reply)), reply)
        self.assertEqual(codes, set(CODES[:5]))

    def test_kinds_of_values_that_are_read(self):
        code, signed_sets = read_reply(write_reply(self.good_reply()))
        self.assertIs(type(code), str)
        self.assertIs(type(signed_sets), tuple)
        for signed_set in signed_sets:
            self.assertIs(type(signed_set), tuple)
            self.assertIs(type(signed_set[0]), tuple)
            self.assertIs(type(signed_set[0][3]), tuple)
            self.assertIs(type(signed_set[1]), tuple)
            self.assertTrue(all(type(signature) is tuple for signature in signed_set[1]))
        self.assertIs(type(read_question([0, 0, 0])), tuple)

    def test_lists_stay_as_they_were(self):
        octets = write_reply(self.good_reply())
        before = list(octets)
        read_reply(octets)
        self.assertEqual(octets, before)
        question = [0, 1, 1, 97, 1]
        read_question(question)
        self.assertEqual(question, [0, 1, 1, 97, 1])

    def test_returned_lists_are_new(self):
        first = write_reply(("refused", ()))
        first.append(1)
        self.assertEqual(write_reply(("refused", ())), [5, 0, 0])
        question = write_question((), (), "text")
        question.clear()
        self.assertEqual(write_question((), (), "text"), [0, 0, 1])

    def test_writing_beyond_the_limits_raises_no_error(self):
        text = (((), "text", 60, ("a",)), ())
        many_values = (((), "key", 60, tuple(range(101))), ())
        many_signatures = (text[0], (SIGNATURE,) * 21)
        for reply in (("data", (text,) * 201), ("data", (many_values,)), ("data", (many_signatures,)),
                      ("data", ((((), "text", 60, ("x" * 61,)), ()),)),
                      ("data", (((TWELVE + ("m",),) + text[0][1:], ()),)),
                      ("data", ((((), "server", 60, (TWELVE + ("m",),)), ()),)),
                      ("data", ((((), "alias", 60, (("a",), ("b",))), ()),))):
            octets = write_reply(reply)
            self.assertTrue(all(0 <= octet <= 255 for octet in octets))
            self.assert_bad_reply(octets)
        for record_set in (((), "address", LAST + 1, (LAST + 1,)), ((), "mail", -1, ((65536, ()),)),
                           ((), "key", 0, (-1,))):
            octets = write_reply(("data", ((record_set, ()),)))
            self.assertTrue(all(0 <= octet <= 255 for octet in octets))


if __name__ == "__main__":
    unittest.main()
