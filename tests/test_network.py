import unittest

from provenames.messages import read_reply, write_question, write_reply
from provenames.network import Network
from provenames.server import Server
from tests.zones import signed, unsigned, zone_of

ORG = ("org",)
REFUSED = [5, 0, 0]
TEXT = write_question(ORG, ORG, "text")
NODATA = write_question(ORG, ORG, "mail")
OUTSIDE = write_question(ORG, ("com",), "text")


def edition_with(text, number=1):
    return signed(zone_of(ORG, 300, (ORG, "text", 60, [text])), number=number)


def server_with(text):
    server = Server()
    server.hold(edition_with(text))
    return server


class NetworkTest(unittest.TestCase):
    def setUp(self):
        self.server, self.other = server_with("one"), server_with("two")
        self.network = Network()
        self.network.attach(1, self.server)
        self.network.attach(2, self.other)
        self.original = self.server.answer(TEXT)

    def bent(self, bend, address=1, octets=TEXT):
        """What is delivered with this bend alone."""
        self.assertIsNone(self.network.bend(bend))
        return self.network.send(address, octets)

    def assert_no_bend(self):
        self.assertEqual(self.network.send(1, TEXT), self.original)


class SendingTest(NetworkTest):
    def test_a_new_network(self):
        network = Network()
        self.assertEqual(len(network), 0)
        self.assertIsNone(network.send(0, TEXT))
        self.assertEqual(len(network), 1)

    def test_no_bend(self):
        for octets in (TEXT, NODATA, OUTSIDE):
            delivered = self.network.send(1, octets)
            self.assertIs(type(delivered), list)
            self.assertEqual(delivered, self.server.answer(octets))
            self.assertEqual(self.network.send(2, octets), self.other.answer(octets))
        self.assertNotEqual(self.network.send(1, TEXT), self.network.send(2, TEXT))

    def test_addresses_without_a_server(self):
        for address in (0, 3, 4294967295):
            self.assertIsNone(self.network.send(address, TEXT))
        self.assert_no_bend()

    def test_attach_in_place_of_another_server(self):
        self.assertIsNone(self.network.attach(1, self.other))
        self.assertEqual(self.network.send(1, TEXT), self.other.answer(TEXT))
        self.assertEqual(self.network.send(2, TEXT), self.other.answer(TEXT))
        self.network.attach(2, self.server)
        self.assertEqual(self.network.send(2, TEXT), self.original)

    def test_one_server_at_several_addresses(self):
        for address in (0, 7, 4294967295):
            self.network.attach(address, self.server)
        for address in (0, 1, 7, 4294967295):
            self.assertEqual(self.network.send(address, TEXT), self.original)
        self.server.release(ORG)
        for address in (0, 1, 7, 4294967295):
            self.assertEqual(self.network.send(address, TEXT), REFUSED)

    def test_the_number_of_sendings(self):
        bends = [("drop",), ("replace", []), ("change", 0, 1), ("cut", 0), ("replay", 0), ("redirect", 2),
                 ("strip",), ("omit", 0)]
        many = 0
        for bend in bends:
            for address in (1, 9):
                self.network.bend(bend)
                self.assertEqual(len(self.network), many)
                self.network.send(address, TEXT)
                many += 1
                self.assertEqual(len(self.network), many)
        self.network.send(1, [])
        self.network.send(9, TEXT)
        self.assertEqual(len(self.network), many + 2)

    def test_octets_that_are_not_a_question(self):
        for octets in ([], [0], TEXT[:-1], TEXT + [0], [-1], [256], write_question(ORG, ORG, "gap")):
            self.assertEqual(self.network.send(1, octets), REFUSED)
            self.assertIsNone(self.network.send(9, octets))

    def test_the_original_is_the_answer_at_the_time_of_the_sending(self):
        self.assert_no_bend()
        self.server.hold(edition_with("new", 2))
        new = self.server.answer(TEXT)
        self.assertNotEqual(new, self.original)
        self.assertEqual(self.network.send(1, TEXT), new)
        self.server.release(ORG)
        self.assertEqual(self.network.send(1, TEXT), REFUSED)
        self.assertEqual(self.bent(("replay", 0)), self.original)
        self.assertEqual(self.bent(("replay", 1)), new)
        self.assertEqual(self.bent(("replay", 2)), REFUSED)
        self.server.hold(edition_with("one"))
        self.network.attach(1, self.other)
        self.assertEqual(self.bent(("replay", 1)), new)

    def test_networks_are_apart(self):
        network = Network()
        network.attach(1, self.other)
        network.bend(("drop",))
        self.assert_no_bend()
        self.assertEqual((len(self.network), len(network)), (1, 0))
        self.assertIsNone(network.send(1, TEXT))


class QueueTest(NetworkTest):
    def test_the_first_bend_is_taken_first(self):
        for bend in (("drop",), ("replace", [7]), ("cut", 2), ("replace", [8])):
            self.network.bend(bend)
        self.assertIsNone(self.network.send(1, TEXT))
        self.assertEqual(self.network.send(1, TEXT), [7])
        self.assertEqual(self.network.send(1, TEXT), self.original[:2])
        self.assertEqual(self.network.send(1, TEXT), [8])
        self.assert_no_bend()

    def test_a_sending_without_a_server_takes_a_bend(self):
        self.network.bend(("strip",))
        self.network.bend(("replace", [7]))
        self.assertIsNone(self.network.send(9, TEXT))
        self.assertEqual(self.network.send(9, TEXT), [7])
        self.assertIsNone(self.network.send(9, TEXT))
        self.assert_no_bend()

    def test_bends_that_are_added_between_sendings(self):
        self.network.bend(("replace", [1]))
        self.network.bend(("replace", [2]))
        self.assertEqual(self.network.send(1, TEXT), [1])
        self.network.bend(("replace", [3]))
        self.assertEqual(self.network.send(1, TEXT), [2])
        self.assertEqual(self.network.send(1, TEXT), [3])
        self.assert_no_bend()
        self.network.bend(("replace", [4]))
        self.assertEqual(self.network.send(1, TEXT), [4])


class BendTest(NetworkTest):
    def test_drop(self):
        self.assertIsNone(self.bent(("drop",)))
        self.assertIsNone(self.bent(("drop",), 9))
        self.assertIsNone(self.bent(("drop",), 1, []))
        self.assert_no_bend()

    def test_replace(self):
        for octets in ([], [0], REFUSED, self.other.answer(TEXT), [-1, 256, 2 ** 70], [5, 0, 0, 0]):
            for address in (1, 9):
                delivered = self.bent(("replace", octets), address)
                self.assertIs(type(delivered), list)
                self.assertEqual(delivered, octets)
        self.assert_no_bend()

    def test_change(self):
        last = len(self.original) - 1
        for index in (0, 1, 5, last):
            for octet in (0, 255, -1, 256, self.original[index]):
                expected = list(self.original)
                expected[index] = octet
                self.assertEqual(self.bent(("change", index, octet)), expected)
        for index in (last + 1, last + 2, 10 ** 9, -1, -2, -last, -last - 1, -10 ** 9):
            self.assertEqual(self.bent(("change", index, 77)), self.original)
        self.assertIsNone(self.bent(("change", 0, 77), 9))
        self.assertEqual(self.bent(("change", 2, 77), 1, OUTSIDE), [5, 0, 77])
        self.assertEqual(self.bent(("change", 3, 77), 1, OUTSIDE), REFUSED)
        self.assert_no_bend()

    def test_cut(self):
        length = len(self.original)
        for count in (0, 1, 2, length - 1, length, length + 1, 10 ** 9):
            self.assertEqual(self.bent(("cut", count)), self.original[:count])
        for count in (-1, -2, -length, -10 ** 9):
            self.assertEqual(self.bent(("cut", count)), [])
        for count in (-1, 0, 1):
            self.assertIsNone(self.bent(("cut", count), 9))
        self.assertEqual(self.bent(("cut", 2), 1, []), [5, 0])
        self.assert_no_bend()

    def test_replay(self):
        other = self.other.answer(TEXT)
        nodata = self.server.answer(NODATA)
        self.network.send(1, TEXT)
        self.network.send(9, TEXT)
        self.network.bend(("drop",))
        self.network.send(2, TEXT)
        self.network.bend(("replace", [7]))
        self.network.send(1, NODATA)
        # Each one is numbered, the bent ones too, and its original counts, not what was delivered.
        self.assertEqual(self.bent(("replay", 0)), self.original)
        self.assertIsNone(self.bent(("replay", 1)))
        self.assertEqual(self.bent(("replay", 2)), other)
        self.assertEqual(self.bent(("replay", 3)), nodata)
        self.assertEqual(len(self.network), 8)
        self.assertIsNone(self.bent(("replay", 8), 2))
        self.assertEqual(self.bent(("replay", 8)), other)
        self.assertIsNone(self.bent(("replay", 11)))
        self.assertIsNone(self.bent(("replay", 13)))
        self.assertIsNone(self.bent(("replay", 10 ** 9)))
        for number in (-1, -2, -len(self.network), -10 ** 9):
            self.assertIsNone(self.bent(("replay", number)))

    def test_replay_without_a_server(self):
        self.network.send(1, TEXT)
        self.assertEqual(self.bent(("replay", 0), 9), self.original)
        self.assertIsNone(self.bent(("replay", 1), 1))
        self.assertEqual(self.bent(("replay", 2), 9), self.original)

    def test_replay_of_a_redirected_sending(self):
        self.bent(("redirect", 2))
        self.assertEqual(self.bent(("replay", 0), 2), self.original)
        self.bent(("replay", 0), 9)
        self.assertIsNone(self.bent(("replay", 2)))

    def test_redirect(self):
        self.assertEqual(self.bent(("redirect", 2)), self.other.answer(TEXT))
        self.assertEqual(self.bent(("redirect", 1)), self.original)
        self.assertEqual(self.bent(("redirect", 2), 1, NODATA), self.other.answer(NODATA))
        self.assertEqual(self.bent(("redirect", 2), 1, [1]), REFUSED)
        for address in (0, 9, -1, 2 ** 70):
            self.assertIsNone(self.bent(("redirect", address)))
        self.assertEqual(self.bent(("redirect", 2), 9), self.other.answer(TEXT))
        self.assertIsNone(self.bent(("redirect", 9), 9))
        self.assert_no_bend()

    def test_strip(self):
        for octets in (TEXT, NODATA, write_question(ORG, ("org", "a"), "text")):
            code, signed_sets = read_reply(self.server.answer(octets))
            self.assertTrue(all(signatures for _, signatures in signed_sets))
            expected = (code, tuple((record_set, ()) for record_set, _ in signed_sets))
            self.assertEqual(self.bent(("strip",), 1, octets), write_reply(expected))
        self.assertEqual(self.bent(("strip",), 1, OUTSIDE), REFUSED)
        self.assertEqual(self.bent(("strip",), 1, []), REFUSED)
        self.assertIsNone(self.bent(("strip",), 9))
        self.server.hold(unsigned(zone_of(ORG, 300, (ORG, "text", 60, ["one"]))))
        self.assertEqual(self.bent(("strip",)), self.server.answer(TEXT))

    def test_strip_of_several_signatures(self):
        tree = ("org", "tree")
        zone = zone_of(ORG, 300, (tree, "server", 1, [tree + ("ns",)]), (tree + ("ns",), "address", 2, [3]))
        self.server.hold(signed(zone))
        octets = write_question(ORG, tree, "text")
        code, signed_sets = read_reply(self.server.answer(octets))
        self.assertEqual([len(signatures) for _, signatures in signed_sets], [0, 1, 0])
        stripped = read_reply(self.bent(("strip",), 1, octets))
        self.assertEqual(stripped, (code, tuple((record_set, ()) for record_set, _ in signed_sets)))

    def test_omit(self):
        self.server.hold(signed(zone_of(
            ORG, 300, (ORG + ("b",), "text", 1, ["x"]), (ORG + ("b", "c"), "text", 1, ["x"]))))
        octets = write_question(ORG, ("org", "d"), "text")
        original = self.server.answer(octets)
        code, signed_sets = read_reply(original)
        self.assertEqual(len(signed_sets), 3)
        for index in range(3):
            expected = (code, signed_sets[:index] + signed_sets[index + 1:])
            self.assertEqual(read_reply(self.bent(("omit", index), 1, octets)), expected)
        for index in (3, 4, 10 ** 9, -1, -3, -10 ** 9):
            self.assertEqual(self.bent(("omit", index), 1, octets), original)
        self.assertEqual(self.bent(("omit", 0), 1, OUTSIDE), REFUSED)
        self.assertEqual(self.bent(("omit", 0), 1, []), REFUSED)
        self.assertIsNone(self.bent(("omit", 0), 9))

    def test_an_original_that_is_none(self):
        for bend in (("change", 0, 1), ("cut", 0), ("cut", 5), ("strip",), ("omit", 0), ("omit", -1)):
            self.assertIsNone(self.bent(bend, 9))
        self.assertEqual(self.bent(("replace", [1]), 9), [1])
        self.assertEqual(self.bent(("redirect", 1), 9), self.original)

    def test_bends_do_not_change_the_server(self):
        for bend in (("change", 0, 9), ("cut", 1), ("strip",), ("omit", 0), ("replace", [])):
            self.bent(bend)
            self.assert_no_bend()


class CopyTest(NetworkTest):
    def test_delivered_lists_that_are_changed(self):
        self.network.send(1, TEXT).clear()
        self.assertEqual(self.bent(("replay", 0)), self.original)
        self.bent(("replay", 0)).append(1)
        self.bent(("change", 10 ** 9, 1)).append(1)
        self.bent(("cut", 10 ** 9)).append(1)
        self.bent(("omit", 10 ** 9)).append(1)
        for number in range(6):
            self.assertEqual(self.bent(("replay", number)), self.original)

    def test_a_sent_list(self):
        octets = list(TEXT)
        self.network.send(1, octets)
        self.bent(("redirect", 2), 1, octets)
        self.bent(("strip",), 1, octets)
        self.assertEqual(octets, TEXT)
        octets.clear()
        self.assertEqual(self.bent(("replay", 0)), self.original)

    def test_the_octets_of_a_bend(self):
        octets = [1, 2, 3]
        self.network.bend(("replace", octets))
        self.network.bend(("replace", octets))
        octets.append(4)
        first = self.network.send(1, TEXT)
        self.assertEqual(first, [1, 2, 3])
        first.clear()
        self.assertEqual(self.network.send(1, TEXT), [1, 2, 3])
        self.assertEqual(octets, [1, 2, 3, 4])


if __name__ == "__main__":
    unittest.main()
