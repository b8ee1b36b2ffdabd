"""Points 29 to 32 and 35: receivers, what they keep, and how they are resumed."""

import copy
import itertools
import unittest

from orderneed.errors import Full, InvalidKept, InvalidParcel, OrderError
from orderneed.parcels import Receiver, Sender, resume
from orderneed.promises import Promise, all_items, keeps
from reference import Dice
from test_channel import derived
from test_senders import A_LESS_B, ALL, NAMES, NONE, send_all, some_messages, some_promise

A_ONLY = Promise(NAMES, [("order", "a", "a", "less")])
NO_PARCELS = [None, True, False, 0, 1, "", "a", "abcd", (), [], {}, set(), ("a",), ("a", 1), ("a", 1, 0),
              ("a", 1, 0, 0, 0), ("c", 1, 0, 0), ("", 1, 0, 0), ("A", 1, 0, 0), (1, 1, 0, 0), (None, 1, 0, 0),
              (("a",), 1, 0, 0), (["a"], 1, 0, 0), ("a", -1000001, 0, 0), ("a", 1000001, 0, 0), ("a", True, 0, 0),
              ("a", False, 0, 0), ("a", "1", 0, 0), ("a", None, 0, 0), ("a", 1.0, 0, 0), ("a", (1,), 0, 0),
              ("a", 1, -1, 0), ("a", 1, 1001, 0), ("a", 1, 0, -1), ("a", 1, 0, 1001), ("a", 1, True, 0),
              ("a", 1, 0, True), ("a", 1, False, 0), ("a", 1, 0, False), ("a", 1, "0", 0), ("a", 1, 0, "0"),
              ("a", 1, None, 0), ("a", 1, 0, None), ("a", 1, 0.0, 0), ("a", 1, 0, [0]), {"a": 1}, ("a", 1, [], {})]


class SlowReceiver:
    """Point 29, word by word."""

    def __init__(self, promise):
        self.promise = promise
        self.through, self.waiting = [], []

    def before(self, parcel):
        return sum(keeps(self.promise, other[:2], parcel[:2]) for other in self.through)

    def come(self, parcel):
        if parcel in self.through or parcel in self.waiting:
            return "dropped", []
        word = "passes" if self.before(parcel) == parcel[2] else "waits"
        self.waiting.append(parcel)
        passing = []
        while True:
            ready = [other for other in self.waiting if self.before(other) == other[2]]
            if not ready:
                return word, passing
            self.waiting.remove(ready[0])
            self.through.append(ready[0])
            passing.append(ready[0][:2])


def contents(receiver):
    """Return all that a receiver tells."""
    return receiver.passed(), receiver.missing(), receiver.kept(), receiver.journal()


def shuffled(seed, values):
    dice = Dice(seed)
    left = list(values)
    return [left.pop(dice.throw(len(left))) for _ in range(len(left))]


class ComeTest(unittest.TestCase):
    def test_in_the_order_in_which_they_were_sent(self):
        parcels = send_all(ALL, [("a", 1), ("b", 1), ("a", 1), ("a", 2)])
        receiver = Receiver(ALL)
        for parcel in parcels:
            self.assertEqual(receiver.come(parcel), ("passes", [parcel[:2]]))
        self.assertEqual(receiver.passed(), [("a", 1), ("b", 1), ("a", 1), ("a", 2)])
        self.assertEqual(receiver.missing(), [])

    def test_the_other_way_round(self):
        first, second, third = send_all(ALL, [("a", 1), ("b", 1), ("a", 2)])
        receiver = Receiver(ALL)
        self.assertEqual(receiver.come(third), ("waits", []))
        self.assertEqual(receiver.come(second), ("waits", []))
        self.assertEqual(receiver.passed(), [])
        self.assertEqual(receiver.missing(), [(third, 2), (second, 1)])
        self.assertEqual(receiver.come(first), ("passes", [("a", 1), ("b", 1), ("a", 2)]))
        self.assertEqual(receiver.missing(), [])

    def test_what_need_not_wait_does_not_wait(self):
        first, second, third = send_all(A_ONLY, [("a", 1), ("a", 2), ("b", 1)])
        receiver = Receiver(A_ONLY)
        self.assertEqual(receiver.come(third), ("passes", [("b", 1)]))
        self.assertEqual(receiver.come(second), ("waits", []))
        self.assertEqual(receiver.come(first), ("passes", [("a", 1), ("a", 2)]))
        self.assertEqual(receiver.passed(), [("b", 1), ("a", 1), ("a", 2)])

    def test_parcels_that_come_again_are_dropped(self):
        first, second = send_all(ALL, [("a", 1), ("b", 1)])
        receiver = Receiver(ALL)
        self.assertEqual(receiver.come(second), ("waits", []))
        self.assertEqual(receiver.come(second), ("dropped", []))
        self.assertEqual(receiver.come(list(second)), ("dropped", []))
        self.assertEqual(receiver.missing(), [(second, 1)])
        self.assertEqual(receiver.come(first), ("passes", [("a", 1), ("b", 1)]))
        for parcel in (first, second, list(first)):
            self.assertEqual(receiver.come(parcel), ("dropped", []))
        self.assertEqual(receiver.passed(), [("a", 1), ("b", 1)])

    def test_equal_messages_are_different_parcels(self):
        parcels = send_all(NONE, [("a", 1)] * 3)
        receiver = Receiver(NONE)
        self.assertEqual([receiver.come(parcel)[0] for parcel in parcels * 2], ["passes"] * 3 + ["dropped"] * 3)
        self.assertEqual(receiver.passed(), [("a", 1)] * 3)

    def test_the_first_of_those_that_can_pass_passes(self):
        # Both can pass behind the first one. Then the other one cannot any more.
        receiver = Receiver(ALL)
        self.assertEqual(receiver.come(("a", 3, 1, 0)), ("waits", []))
        self.assertEqual(receiver.come(("a", 2, 1, 0)), ("waits", []))
        self.assertEqual(receiver.come(("a", 1, 0, 0)), ("passes", [("a", 1), ("a", 3)]))
        self.assertEqual(receiver.missing(), [(("a", 2, 1, 0), 0)])
        self.assertEqual(receiver.kept(), ([("a", 1, 0, 0), ("a", 3, 1, 0)], [("a", 2, 1, 0)]))

    def test_one_that_came_early_passes_ahead_of_one_that_came_late(self):
        receiver = Receiver(ALL)
        for parcel in (("a", 4, 3, 0), ("a", 3, 2, 0), ("a", 2, 1, 0)):
            self.assertEqual(receiver.come(parcel), ("waits", []))
        self.assertEqual(receiver.come(("a", 1, 0, 0)), ("passes", [("a", 1), ("a", 2), ("a", 3), ("a", 4)]))

    def test_a_parcel_that_cannot_pass_any_more_waits(self):
        receiver = Receiver(ALL)
        receiver.come(("a", 1, 0, 0))
        self.assertEqual(receiver.come(("a", 2, 0, 0)), ("waits", []))
        self.assertEqual(receiver.missing(), [(("a", 2, 0, 0), 0)])
        self.assertEqual(receiver.come(("a", 2, 0, 0)), ("dropped", []))
        receiver.come(("a", 3, 1, 0))
        self.assertEqual(receiver.missing(), [(("a", 2, 0, 0), 0)])
        self.assertEqual(receiver.passed(), [("a", 1), ("a", 3)])

    def test_kinds(self):
        receiver = Receiver(ALL)
        found = receiver.come(["a", 1, 0, 0])
        self.assertEqual(found, ("passes", [("a", 1)]))
        self.assertEqual([type(found), type(found[0]), type(found[1]), type(found[1][0])], [tuple, str, list, tuple])
        receiver.come(["b", 2, 7, 0])
        self.assertEqual(receiver.missing(), [(("b", 2, 7, 0), 6)])
        self.assertEqual([type(receiver.missing()), type(receiver.missing()[0]), type(receiver.missing()[0][0])],
                         [list, tuple, tuple])
        self.assertEqual(receiver.kept(), ([("a", 1, 0, 0)], [("b", 2, 7, 0)]))
        self.assertEqual([type(part) for part in (receiver.kept(), *receiver.kept())], [tuple, list, list])
        self.assertEqual(type(receiver.passed()), list)

    def test_methods_are_those_of_the_class(self):
        for name in ("come", "passed", "missing", "kept", "journal"):
            self.assertIn(name, Receiver.__dict__)
        self.assertEqual(Receiver.__module__, "orderneed.parcels")
        self.assertEqual(resume.__module__, "orderneed.parcels")


class OrderTest(unittest.TestCase):
    """Point 30, with all orders of few parcels and with some orders of many."""

    def assert_as_promised(self, promise, parcels, coming):
        """Check, behind each parcel that comes, what passed. The parcels stand in the order in which they were sent."""
        receiver = Receiver(promise)
        slow = SlowReceiver(promise)
        told = []
        for at, parcel in enumerate(coming):
            word, passing = receiver.come(parcel)
            self.assertEqual((word, passing), slow.come(parcel))
            self.assertEqual(word == "dropped", parcel in coming[:at])
            told.extend(passing)
            passed, waiting = receiver.kept()
            self.assertEqual((passed, waiting), (slow.through, slow.waiting))
            self.assertEqual(receiver.passed(), [other[:2] for other in passed])
            self.assertEqual(receiver.passed(), told)
            self.assertEqual(receiver.missing(), [(other, other[2] - slow.before(other)) for other in waiting])
            self.assert_no_needless_waiting(promise, parcels, coming[:at + 1], passed)
        self.assert_in_order(promise, parcels, passed)
        if set(coming) == set(parcels):
            self.assertEqual(sorted(passed), sorted(parcels))

    def assert_no_needless_waiting(self, promise, parcels, came, passed):
        for at, parcel in enumerate(parcels):
            ahead = [other for other in parcels[:at] if keeps(promise, other[:2], parcel[:2])]
            may = parcel in came and all(other in passed for other in ahead)
            self.assertEqual(parcel in passed, may)

    def assert_in_order(self, promise, parcels, passed):
        """Check that the order came about by exchanges that the promise allows."""
        for one, other in itertools.combinations([parcel for parcel in parcels if parcel in passed], 2):
            if keeps(promise, one[:2], other[:2]):
                self.assertLess(passed.index(one), passed.index(other))

    def test_all_orders_of_few_parcels(self):
        for seed in range(12):
            promise = some_promise(seed)
            parcels = send_all(promise, some_messages(seed + 100, 4, numbers=3))
            for coming in itertools.permutations(parcels):
                self.assert_as_promised(promise, parcels, coming)
                receiver = Receiver(promise)
                for parcel in coming:
                    receiver.come(parcel)
                exchanges = Promise(NAMES, [*promise.entries, *[("once", name) for name in NAMES
                                                               if ("once", name) not in promise.entries]])
                self.assertIn(tuple(receiver.passed()),
                              derived(exchanges, tuple(parcel[:2] for parcel in parcels), 4))

    def test_parcels_that_are_lost_and_that_come_again(self):
        for seed in range(60):
            promise = some_promise(seed, ("a", "b", "c"))
            parcels = send_all(promise, some_messages(seed, 14, ("a", "b", "c")))
            dice = Dice(seed)
            coming = shuffled(seed, [parcel for parcel in parcels for _ in range(dice.throw(4))])
            self.assert_as_promised(promise, parcels, coming)

    def test_two_hundred_parcels_the_other_way_round(self):
        for promise in (ALL, NONE, A_ONLY, A_LESS_B):
            messages = some_messages(7, 200, numbers=50)
            parcels = send_all(promise, messages)
            receiver = Receiver(promise)
            for parcel in reversed(parcels):
                receiver.come(parcel)
            self.assertEqual(receiver.missing(), [])
            self.assertEqual(len(receiver.passed()), 200)
            self.assert_in_order(promise, parcels, receiver.kept()[0])
            if promise is ALL:
                self.assertEqual(receiver.passed(), messages)

    def test_parcels_that_no_sender_made(self):
        for seed in range(60):
            dice = Dice(seed)
            promise = some_promise(seed)
            receiver, slow = Receiver(promise), SlowReceiver(promise)
            for _ in range(40):
                parcel = (dice.choose(NAMES), dice.throw(3), dice.throw(6), dice.throw(2))
                self.assertEqual(receiver.come(parcel), slow.come(parcel))
                self.assertEqual(receiver.kept(), (slow.through, slow.waiting))
                self.assertEqual(receiver.missing(), [(other, max(0, other[2] - slow.before(other)))
                                                      for other in slow.waiting])


class ErrorTest(unittest.TestCase):
    def test_no_parcels(self):
        self.assertTrue(issubclass(InvalidParcel, OrderError))
        receiver = Receiver(ALL)
        receiver.come(("a", 1, 0, 0))
        receiver.come(("b", 1, 5, 0))
        before = contents(receiver)
        for other in NO_PARCELS:
            self.assertRaises(InvalidParcel, receiver.come, other)
            self.assertEqual(contents(receiver), before)

    def test_numbers_at_both_bounds(self):
        for number, ahead, again in itertools.product((-1000000, 1000000), (0, 1000), (0, 1000)):
            receiver = Receiver(ALL)
            parcel = ("b", number, ahead, again)
            self.assertEqual(receiver.come(parcel)[0], "waits" if ahead else "passes")
            self.assertEqual(sum(receiver.kept(), []), [parcel])

    def test_the_three_hundredth_and_the_next_parcel(self):
        receiver = Receiver(ALL)
        for at in range(300):
            self.assertEqual(receiver.come(("a", at, at, 0)), ("passes", [("a", at)]))
        before = contents(receiver)
        self.assertEqual(len(receiver.passed()), 300)
        for parcel in (("a", 300, 300, 0), ("a", 0, 0, 0), ["b", 1, 5, 0]):
            self.assertRaises(Full, receiver.come, parcel)
            self.assertEqual(contents(receiver), before)
        # A value that is no parcel is told ahead of this.
        for other in NO_PARCELS:
            self.assertRaises(InvalidParcel, receiver.come, other)
        self.assertEqual(contents(receiver), before)

    def test_parcels_that_are_dropped_count(self):
        receiver = Receiver(NONE)
        for _ in range(300):
            receiver.come(("a", 1, 0, 0))
        self.assertRaises(Full, receiver.come, ("a", 1, 0, 0))
        self.assertRaises(Full, receiver.come, ("a", 2, 0, 0))
        self.assertEqual(receiver.passed(), [("a", 1)])

    def test_parcels_that_raise_an_error_do_not_count(self):
        receiver = Receiver(NONE)
        for _ in range(400):
            self.assertRaises(InvalidParcel, receiver.come, ("c", 1, 0, 0))
        for _ in range(300):
            receiver.come(("a", 1, 0, 0))
        self.assertRaises(Full, receiver.come, ("a", 1, 0, 0))


class KeptTest(unittest.TestCase):
    def test_a_resumed_receiver_goes_on_as_the_old_one(self):
        for seed in range(60):
            promise = some_promise(seed)
            parcels = shuffled(seed, send_all(promise, some_messages(seed, 16)))
            old = Receiver(promise)
            for parcel in parcels[:8]:
                old.come(parcel)
            for kept in (old.kept(), [list(map(list, part)) for part in old.kept()], tuple(map(tuple, old.kept()))):
                new = resume(promise, kept)
                self.assertEqual(contents(new)[:3], contents(old)[:3])
                other = resume(promise, old.kept())
                for parcel in parcels[4:]:
                    self.assertEqual(new.come(parcel), other.come(parcel))
                self.assertEqual(sorted(new.passed()), sorted(parcel[:2] for parcel in parcels))
            for parcel in parcels[4:]:
                old.come(parcel)
            self.assertEqual(contents(new)[:3], contents(old)[:3])

    def test_nothing(self):
        receiver = resume(ALL, ([], []))
        self.assertIs(type(receiver), Receiver)
        self.assertEqual(contents(receiver), ([], [], ([], []), ""))
        self.assertEqual(contents(resume(ALL, [(), ()])), contents(Receiver(ALL)))

    def test_what_waits_still_waits(self):
        kept = ([("a", 1, 0, 0)], [("a", 3, 2, 0), ("b", 1, 2, 0), ("a", 2, 0, 0)])
        receiver = resume(ALL, kept)
        self.assertEqual(receiver.kept(), kept)
        self.assertEqual(receiver.missing(), [(("a", 3, 2, 0), 1), (("b", 1, 2, 0), 1), (("a", 2, 0, 0), 0)])
        self.assertEqual(receiver.come(("a", 1, 0, 0)), ("dropped", []))
        self.assertEqual(receiver.come(["a", 3, 2, 0]), ("dropped", []))
        self.assertEqual(receiver.come(("a", 9, 1, 0)), ("passes", [("a", 9), ("a", 3)]))

    def test_what_passed_is_not_checked_further(self):
        # No receiver can have let these pass.
        receiver = resume(ALL, ([("a", 1, 7, 3), ("a", 2, 0, 9)], []))
        self.assertEqual(receiver.passed(), [("a", 1), ("a", 2)])
        self.assertEqual(receiver.come(("b", 0, 2, 0)), ("passes", [("b", 0)]))

    def test_other_forms(self):
        good = ([("a", 1, 0, 0)], [("b", 1, 2, 0)])
        self.assertEqual(resume(ALL, good).kept(), good)
        for other in (None, True, 0, "", "ab", (), [], ([],), ([], [], []), ([], None), (None, []), ("", ""), ([], ""),
                      ("", []), {}, set(), {0: [], 1: []}, (0, 0), ([], {}), ({}, []), (set(), []), ([], set()),
                      "[]", ((), (), ()), [("a", 1, 0, 0)], [("a", 1, 0, 0), ("b", 1, 2, 0)], ([[]], []), ([], [[]])):
            self.assertRaises(InvalidKept, resume, ALL, other)
        self.assertTrue(issubclass(InvalidKept, OrderError))

    def test_members_that_are_no_parcels(self):
        for other in NO_PARCELS:
            self.assertRaises(InvalidKept, resume, ALL, ([other], []))
            self.assertRaises(InvalidKept, resume, ALL, ([], [other]))
            self.assertRaises(InvalidKept, resume, ALL, ([("a", 1, 0, 0), other], [("b", 1, 2, 0)]))
            self.assertRaises(InvalidKept, resume, ALL, [[("a", 1, 0, 0)], [("b", 1, 2, 0), other]])

    def test_two_that_are_equal(self):
        one, other = ("a", 1, 0, 0), ("b", 1, 2, 0)
        self.assertRaises(InvalidKept, resume, ALL, ([one, one], []))
        self.assertRaises(InvalidKept, resume, ALL, ([one, list(one)], []))
        self.assertRaises(InvalidKept, resume, ALL, ([], [other, other]))
        self.assertRaises(InvalidKept, resume, ALL, ([], [other, list(other)]))
        self.assertRaises(InvalidKept, resume, ALL, ([one, ("b", 1, 2, 0)], [other]))
        self.assertEqual(resume(ALL, ([one, ("a", 1, 0, 1)], [("b", 1, 3, 0)])).passed(), [("a", 1), ("a", 1)])

    def test_one_that_waits_and_can_pass(self):
        self.assertRaises(InvalidKept, resume, ALL, ([], [("a", 1, 0, 0)]))
        self.assertRaises(InvalidKept, resume, ALL, ([("a", 1, 0, 0)], [("a", 2, 5, 0), ("b", 1, 1, 0)]))
        self.assertEqual(resume(ALL, ([("a", 1, 0, 0)], [("a", 2, 5, 0), ("b", 1, 2, 0)])).missing(),
                         [(("a", 2, 5, 0), 4), (("b", 1, 2, 0), 1)])
        # Whether it can pass depends on the promise.
        self.assertRaises(InvalidKept, resume, NONE, ([], [("a", 1, 0, 0)]))
        self.assertEqual(resume(NONE, ([("a", 1, 0, 0)], [("b", 1, 1, 0)])).missing(), [(("b", 1, 1, 0), 1)])
        self.assertRaises(InvalidKept, resume, ALL, ([("a", 1, 0, 0)], [("b", 1, 1, 0)]))

    def test_three_hundred_parcels_and_one_more(self):
        passed = [("a", at, at, 0) for at in range(299)]
        waiting = [("b", at, 1000, 0) for at in range(2)]
        self.assertEqual(len(resume(ALL, (passed, waiting[:1])).passed()), 299)
        self.assertRaises(InvalidKept, resume, ALL, (passed, waiting))
        self.assertRaises(InvalidKept, resume, ALL, (passed + [("a", 299, 299, 0), ("a", 300, 300, 0)], []))
        self.assertRaises(InvalidKept, resume, ALL, ([], [("b", at, 1000, 0) for at in range(301)]))
        self.assertEqual(len(resume(ALL, ([], [("b", at, 1000, 0) for at in range(300)])).missing()), 300)

    def test_three_hundred_more_come_to_a_resumed_receiver(self):
        receiver = resume(ALL, ([("a", at, at, 0) for at in range(300)], []))
        for at in range(300, 600):
            self.assertEqual(receiver.come(("a", at, at, 0)), ("passes", [("a", at)]))
        self.assertRaises(Full, receiver.come, ("a", 600, 600, 0))
        self.assertEqual(len(receiver.passed()), 600)
        # So many are kept that no receiver can be resumed from them.
        self.assertRaises(InvalidKept, resume, ALL, receiver.kept())


class UnchangedTest(unittest.TestCase):
    def test_what_was_returned_stays_as_it_was(self):
        receiver = Receiver(ALL)
        first, second, third = send_all(ALL, [("a", 1), ("b", 1), ("a", 2)])
        found = [receiver.come(third), receiver.come(first), *contents(receiver)]
        before = copy.deepcopy(found)
        receiver.come(second)
        receiver.come(second)
        self.assertEqual(found, before)
        self.assertEqual(receiver.passed(), [("a", 1), ("b", 1), ("a", 2)])

    def test_spoiling_what_was_returned_does_not_matter(self):
        receiver = Receiver(ALL)
        first, second, third = send_all(ALL, [("a", 1), ("b", 1), ("a", 2)])
        receiver.come(third)[1].append("spoilt")
        receiver.come(first)[1].clear()
        before = copy.deepcopy(contents(receiver))
        for part in (receiver.passed(), receiver.missing(), *receiver.kept()):
            part.clear()
            part.append("spoilt")
        self.assertEqual(contents(receiver), before)
        self.assertEqual(receiver.come(second), ("passes", [("b", 1), ("a", 2)]))

    def test_arguments_stay_as_they_were(self):
        parcel = ["a", 1, 0, 0]
        receiver = Receiver(ALL)
        receiver.come(parcel)
        self.assertEqual(parcel, ["a", 1, 0, 0])
        parcel[1] = 9
        self.assertEqual(receiver.passed(), [("a", 1)])
        kept = [[["a", 1, 0, 0]], [["b", 1, 2, 0]]]
        receiver = resume(ALL, kept)
        receiver.come(("a", 2, 1, 0))
        self.assertEqual(kept, [[["a", 1, 0, 0]], [["b", 1, 2, 0]]])
        kept[0].clear()
        kept[1][0][2] = 0
        self.assertEqual(receiver.passed(), [("a", 1), ("a", 2), ("b", 1)])

    def test_receivers_are_their_own(self):
        first, second = Receiver(ALL), Receiver(ALL)
        first.come(("a", 1, 0, 0))
        self.assertEqual(contents(second), ([], [], ([], []), ""))
        third = resume(ALL, first.kept())
        third.come(("a", 2, 1, 0))
        self.assertEqual(first.passed(), [("a", 1)])
        sender = Sender(ALL)
        sender.send(("a", 1))
        self.assertEqual(second.passed(), [])


if __name__ == "__main__":
    unittest.main()
