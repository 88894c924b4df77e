import unittest

from provenames.errors import Unknown
from provenames.lookup import evidence, outcome
from provenames.messages import read_reply, write_question, write_reply
from provenames.records import KINDS
from provenames.server import Server
from provenames.zone import Zone
from tests.zones import NAMES, mixed_zone, signed, unsigned, zone_of

ORG = ("org",)
TREE = ("org", "tree")
REFUSED = ("refused", ())
ASKED = tuple(kind for kind in KINDS if kind != "gap")


def rich_zone():
    return zone_of(
        ORG, 300, (ORG, "text", 60, ["x"]), (TREE, "server", 63, [TREE + ("ns",)]),
        (TREE, "link", 64, [5]), (TREE + ("ns",), "address", 66, [3]), (ORG + ("c",), "alias", 70, [()]),
        (ORG + ("w", "*"), "mail", 71, [(1, ())]))


def with_text(apex, text, number=1):
    return signed(zone_of(apex, 5, (apex, "text", 1, [text])), number=number)


class ServerTest(unittest.TestCase):
    def setUp(self):
        self.server = Server()

    def text(self, zone):
        """The text that the server has at the apex, or the code."""
        code, signed_sets = self.server.reply(zone, zone, "text")
        return signed_sets[0][0][3] if code == "data" else code


class HoldingTest(ServerTest):
    def test_a_new_server_holds_nothing(self):
        for zone in ((), ORG, ("*",)):
            self.assertEqual(self.server.reply(zone, zone, "text"), REFUSED)
            self.assertEqual(self.server.reply(zone, ("a",), "text"), REFUSED)
            self.assertRaises(Unknown, self.server.release, zone)

    def test_editions_of_different_apexes(self):
        for apex in ((), ORG, TREE):
            self.assertIsNone(self.server.hold(with_text(apex, f"{len(apex)}")))
        self.assertEqual([self.text(apex) for apex in ((), ORG, TREE)], [("0",), ("1",), ("2",)])
        self.assertEqual(self.text(("com",)), "refused")

    def test_an_edition_in_place_of_another(self):
        self.server.hold(with_text((), "root"))
        self.server.hold(with_text(ORG, "old", 9))
        self.server.hold(with_text(ORG, "new", 8))
        self.assertEqual(self.text(ORG), ("new",))
        self.assertEqual(self.text(()), ("root",))
        self.server.release(ORG)
        self.assertEqual(self.text(ORG), "refused")

    def test_release(self):
        self.server.hold(with_text(ORG, "a"))
        self.server.hold(with_text(TREE, "b"))
        for apex in ((), ("org", "tre"), ("*",), TREE + ("a",)):
            self.assertRaises(Unknown, self.server.release, apex)
        self.assertIsNone(self.server.release(ORG))
        self.assertEqual((self.text(ORG), self.text(TREE)), ("refused", ("b",)))
        self.assertRaises(Unknown, self.server.release, ORG)
        self.assertEqual(self.text(TREE), ("b",))
        self.server.hold(with_text(ORG, "c"))
        self.assertEqual(self.text(ORG), ("c",))

    def test_servers_are_apart(self):
        other = Server()
        other.hold(with_text(ORG, "a"))
        self.assertEqual(self.text(ORG), "refused")
        self.server.hold(with_text(ORG, "b"))
        other.release(ORG)
        self.assertEqual(self.text(ORG), ("b",))


class ReplyTest(ServerTest):
    def setUp(self):
        ServerTest.setUp(self)
        self.edition = signed(rich_zone())
        self.server.hold(self.edition)

    def assert_reply(self, name, kind, code, *pairs):
        with self.subTest(name=name, kind=kind):
            reply = self.server.reply(ORG, name, kind)
            self.assertEqual(reply, (code, tuple(self.edition.at(*pair) for pair in pairs)))
            self.assertIs(type(reply), tuple)
            self.assertIs(type(reply[1]), tuple)

    def test_each_outcome(self):
        gap = (ORG, "gap")
        star = ORG + ("w", "*")
        self.assert_reply(ORG, "text", "data", (ORG, "text"))
        self.assert_reply(ORG, "key", "data", (ORG, "key"))
        self.assert_reply(ORG + ("c",), "text", "alias", (ORG + ("c",), "alias"))
        self.assert_reply(ORG + ("c",), "alias", "data", (ORG + ("c",), "alias"))
        self.assert_reply(ORG, "mail", "nodata", (ORG, "start"), gap)
        self.assert_reply(ORG + ("a",), "text", "noname", (ORG, "start"), gap)
        self.assert_reply(ORG + ("w", "a"), "mail", "data", (star, "mail"), (star, "gap"))
        self.assert_reply(TREE, "text", "referral", (TREE, "server"), (TREE, "link"),
                          (TREE + ("ns",), "address"))
        self.assert_reply(TREE, "link", "data", (TREE, "link"))

    def test_refused_for_what_is_outside(self):
        for name in ((), ("com",), ("orgg",), ("*",)):
            for kind in ASKED:
                self.assertEqual(self.server.reply(ORG, name, kind), REFUSED)
        self.assertEqual(self.server.reply(ORG, ORG, "link"), REFUSED)

    def test_refused_for_another_apex(self):
        for zone in ((), TREE, ORG + ("c",), ("org", "*"), ("*",), ("com",)):
            for name in (ORG, TREE, zone):
                self.assertEqual(self.server.reply(zone, name, "text"), REFUSED)

    def test_the_edition_is_taken_by_the_zone(self):
        self.server.hold(with_text((), "root"))
        self.server.hold(with_text(TREE, "tree"))
        self.assertEqual(self.server.reply((), ORG, "text")[0], "noname")
        self.assertEqual(self.server.reply(ORG, TREE, "text")[0], "referral")
        self.assertEqual(self.server.reply(TREE, TREE, "text")[0], "data")

    def test_editions_that_are_not_signed(self):
        edition = unsigned(rich_zone())
        self.server.hold(edition)
        self.assertEqual(self.server.reply(ORG, ORG, "mail"), ("nodata", (edition.at(ORG, "start"),)))
        self.assertEqual(self.server.reply(ORG, ORG, "text"), ("data", (edition.at(ORG, "text"),)))

    def test_replies_against_lookup(self):
        for seed in range(30):
            apex, _, zone, _ = mixed_zone(seed)
            edition = signed(zone)
            server = Server()
            server.hold(edition)
            for name in NAMES:
                for kind in ASKED:
                    found = outcome(edition, name, kind)[0]
                    expected = REFUSED if found == "outside" else (
                        found, tuple(evidence(edition, name, kind)))
                    self.assertEqual(server.reply(apex, name, kind), expected)


class AnswerTest(ServerTest):
    def setUp(self):
        ServerTest.setUp(self)
        self.server.hold(signed(rich_zone()))

    def test_answers_are_the_replies_as_octets(self):
        for zone in (ORG, (), TREE, ("*",)):
            for name in (ORG, TREE, ORG + ("c",), ORG + ("w", "a"), ORG + ("a",), ("com",), ()):
                for kind in ASKED:
                    with self.subTest(zone=zone, name=name, kind=kind):
                        octets = write_question(zone, name, kind)
                        before = list(octets)
                        answer = self.server.answer(octets)
                        reply = self.server.reply(zone, name, kind)
                        self.assertIs(type(answer), list)
                        self.assertEqual(answer, write_reply(reply))
                        self.assertEqual(read_reply(answer), reply)
                        self.assertEqual(octets, before)

    def test_the_question_of_the_document(self):
        self.server.hold(signed(Zone((), 5)))
        self.assertEqual(read_reply(self.server.answer([0, 1, 1, 97, 1]))[0], "noname")

    def test_octets_that_are_no_question(self):
        good = write_question(ORG, ORG, "text")
        self.assertEqual(self.server.answer(good)[0], 0)
        wrong = [[], [0], good[:-1], good + [0], good[:-1] + [8], good[:-1] + [9], good[:-1] + [-255],
                 [-1], [256], [1, 3, 111, 114, 103 + 256] + good[5:], [5, 0, 0], [13] + [1, 97] * 13,
                 write_question(ORG, ORG, "gap"), write_question(ORG, ("org", "*", "a"), "text"),
                 write_question(ORG, ("ORG",), "text"), self.server.answer(good)]
        for octets in wrong:
            with self.subTest(octets=octets):
                before = list(octets)
                self.assertEqual(self.server.answer(octets), [5, 0, 0])
                self.assertEqual(octets, before)

    def test_refused_as_octets(self):
        self.assertEqual(self.server.answer(write_question(("com",), ("com",), "text")), [5, 0, 0])
        self.assertEqual(self.server.answer(write_question(ORG, ("com",), "text")), [5, 0, 0])

    def test_a_returned_list_that_is_changed_changes_nothing(self):
        for octets in (write_question(ORG, ORG, "text"), []):
            answer = self.server.answer(octets)
            kept = list(answer)
            answer.clear()
            self.assertEqual(self.server.answer(octets), kept)


if __name__ == "__main__":
    unittest.main()
