"""Point 28 and the first half of point 35: senders."""

import copy
import itertools
import unittest

from orderneed.errors import Full, OrderError, UnknownName
from orderneed.parcels import Sender
from orderneed.promises import Promise, all_items, keeps
from reference import Dice

NAMES = ("a", "b")
ALL = Promise(NAMES, all_items(NAMES))
NONE = Promise(NAMES, [])
A_LESS_B = Promise(NAMES, [("order", "a", "b", "less")])


def some_promise(seed, names=NAMES):
    dice = Dice(seed)
    return Promise(names, [item for item in all_items(names) if dice.throw(2)])


def some_messages(seed, many, names=NAMES, numbers=4):
    dice = Dice(seed)
    return [(dice.choose(names), dice.throw(numbers) - 1) for _ in range(many)]


def send_all(promise, messages):
    sender = Sender(promise)
    return [sender.send(message) for message in messages]


class SenderTest(unittest.TestCase):
    def test_a_promise_of_nothing(self):
        self.assertEqual(send_all(NONE, [("a", 1), ("b", 1), ("a", 1), ("a", 2), ("a", 1)]),
                         [("a", 1, 0, 0), ("b", 1, 0, 0), ("a", 1, 0, 1), ("a", 2, 0, 0), ("a", 1, 0, 2)])

    def test_a_promise_of_everything(self):
        # Equal messages are not kept in order with each other.
        self.assertEqual(send_all(ALL, [("a", 1), ("b", 1), ("a", 1), ("a", 2), ("a", 1), ("b", 1)]),
                         [("a", 1, 0, 0), ("b", 1, 1, 0), ("a", 1, 1, 0), ("a", 2, 3, 0), ("a", 1, 2, 0),
                          ("b", 1, 4, 0)])

    def test_equal_messages_with_the_same_ahead(self):
        self.assertEqual(send_all(ALL, [("a", 1)] * 3 + [("b", 0)] + [("a", 1)] * 2),
                         [("a", 1, 0, 0), ("a", 1, 0, 1), ("a", 1, 0, 2), ("b", 0, 3, 0), ("a", 1, 1, 0),
                          ("a", 1, 1, 1)])

    def test_which_of_two_messages_is_sent_first_does_not_matter(self):
        self.assertEqual(send_all(A_LESS_B, [("b", 5), ("a", 1), ("a", 5), ("a", 9), ("b", 6)]),
                         [("b", 5, 0, 0), ("a", 1, 1, 0), ("a", 5, 0, 0), ("a", 9, 0, 0), ("b", 6, 2, 0)])

    def test_once_does_not_keep_order(self):
        self.assertEqual(send_all(Promise(NAMES, [("once", "a")]), [("a", 1), ("a", 2), ("a", 1)]),
                         [("a", 1, 0, 0), ("a", 2, 0, 0), ("a", 1, 0, 1)])

    def test_the_numbers_as_the_document_counts_them(self):
        for seed in range(60):
            promise = some_promise(seed)
            messages = some_messages(seed, 30)
            parcels = send_all(promise, messages)
            for at, (message, parcel) in enumerate(zip(messages, parcels)):
                ahead = sum(keeps(promise, earlier, message) for earlier in messages[:at])
                again = sum(earlier[:3] == (*message, ahead) for earlier in parcels[:at])
                self.assertEqual(parcel, (*message, ahead, again))
            self.assertEqual(len(set(parcels)), len(parcels))

    def test_kinds(self):
        parcel = Sender(ALL).send(["a", 3])
        self.assertEqual(parcel, ("a", 3, 0, 0))
        self.assertIs(type(parcel), tuple)
        self.assertEqual([type(part) for part in parcel], [str, int, int, int])

    def test_lists_and_tuples(self):
        sender = Sender(ALL)
        self.assertEqual([sender.send(message) for message in (["a", 1], ("a", 1), ["b", 0], ("a", 1))],
                         [("a", 1, 0, 0), ("a", 1, 0, 1), ("b", 0, 2, 0), ("a", 1, 1, 0)])

    def test_numbers_at_both_bounds(self):
        self.assertEqual(send_all(ALL, [("a", -1000000), ("a", 1000000)]),
                         [("a", -1000000, 0, 0), ("a", 1000000, 1, 0)])

    def test_nothing_else_of_a_message_is_checked(self):
        self.assertEqual(send_all(ALL, [("a", -1000001), ("a", 10 ** 20)]),
                         [("a", -1000001, 0, 0), ("a", 10 ** 20, 1, 0)])

    def test_senders_are_their_own(self):
        first, second = Sender(ALL), Sender(ALL)
        first.send(("a", 1))
        self.assertEqual(second.send(("a", 2)), ("a", 2, 0, 0))
        self.assertEqual((first.sent_count, second.sent_count), (1, 1))


class SentCountTest(unittest.TestCase):
    def test_it_counts_the_messages(self):
        sender = Sender(NONE)
        self.assertEqual(sender.sent_count, 0)
        for many in range(1, 6):
            sender.send(("a", 1))
            self.assertEqual(sender.sent_count, many)

    def test_it_is_a_property_of_the_class(self):
        self.assertIsInstance(Sender.__dict__["sent_count"], property)
        self.assertIn("send", Sender.__dict__)
        self.assertEqual(Sender.__module__, "orderneed.parcels")


class ErrorTest(unittest.TestCase):
    def test_unknown_name(self):
        for name in ("c", "", "A", "ab", "order"):
            sender = Sender(ALL)
            sender.send(("a", 1))
            with self.assertRaises(UnknownName) as caught:
                sender.send((name, 1))
            self.assertEqual(caught.exception.name, name)
            self.assertIsInstance(caught.exception, OrderError)
            self.assertEqual(sender.sent_count, 1)
            self.assertEqual(sender.send(("a", 2)), ("a", 2, 1, 0))

    def test_the_two_hundredth_and_the_next_message(self):
        sender = Sender(ALL)
        parcels = [sender.send(("a", number)) for number in range(200)]
        self.assertEqual(parcels[199], ("a", 199, 199, 0))
        self.assertEqual(sender.sent_count, 200)
        for _ in range(3):
            self.assertRaises(Full, sender.send, ("a", 200))
            self.assertEqual(sender.sent_count, 200)
        # An unknown name is told even now.
        self.assertRaises(UnknownName, sender.send, ("c", 1))
        self.assertEqual(sender.sent_count, 200)

    def test_unknown_names_do_not_count(self):
        sender = Sender(NONE)
        for _ in range(250):
            self.assertRaises(UnknownName, sender.send, ("c", 1))
        for many in range(200):
            self.assertEqual(sender.send(("b", 1)), ("b", 1, 0, many))
        self.assertRaises(Full, sender.send, ("b", 1))

    def test_what_was_passed_and_returned_stays_as_it_was(self):
        promise = Promise(NAMES, [("order", "a", "b", "less"), ("once", "b")])
        sender = Sender(promise)
        messages = [["a", 1], ["b", 2], ["a", 1]]
        parcels = [sender.send(message) for message in messages]
        before = copy.deepcopy(parcels)
        messages[0][1] = 50
        for message in itertools.product("ab", range(3)):
            sender.send(message)
        self.assertEqual(parcels, before)
        self.assertEqual(messages[1:], [["b", 2], ["a", 1]])
        self.assertEqual((promise.names, promise.entries), (NAMES, (("order", "a", "b", "less"), ("once", "b"))))


if __name__ == "__main__":
    unittest.main()
