"""Points 14, 15, 21 and 22: what a channel with a promise does, tried out with all short sequences."""

import itertools
import unittest

from examples import APART, ECHO, FIRST, GREATEST, IN_TURN, SILENT, case_of, threshold
from orderneed.cases import Case, same_records
from orderneed.needs import harm, is_enough, least_promise
from orderneed.programs import run
from orderneed.promises import Promise, all_items, keeps, shows_harm
from reference import some_program, some_views

NAMES = ("a", "b")


def steps(promise, sequence, longest):
    """Return the sequences that a channel makes of a sequence by one step, if they are not too long."""
    found = []
    for at in range(len(sequence) - 1):
        first, second = sequence[at:at + 2]
        if not keeps(promise, first, second):
            found.append(sequence[:at] + (second, first) + sequence[at + 2:])
    for at, message in enumerate(sequence):
        if ("once", message[0]) not in promise.entries and len(sequence) < longest:
            found.extend(sequence[:place] + (message,) + sequence[place:] for place in range(at + 1, len(sequence) + 1))
    return found


def derived(promise, sent, longest):
    """Return all sequences that can be derived from a sent one, by sequences that are not too long."""
    found = [sent]
    known = {sent}
    for sequence in found:
        for after in steps(promise, sequence, longest):
            if after not in known:
                known.add(after)
                found.append(after)
    return found


def sequences(names, numbers, length):
    return itertools.product(itertools.product(names, numbers), repeat=length)


class StepTest(unittest.TestCase):
    """The steps of point 14, as `keeps` and the items `once` tell them."""

    def test_an_empty_promise_allows_all(self):
        promise = Promise(NAMES, [])
        sent = (("a", 0), ("b", 0), ("a", 1))
        self.assertEqual({came for came in derived(promise, sent, 3)}, set(itertools.permutations(sent)))
        self.assertIn((("a", 0), ("a", 0)), derived(promise, (("a", 0),), 2))
        self.assertEqual(len(derived(promise, (("a", 0), ("b", 0)), 3)), 2 + 6)

    def test_a_whole_promise_allows_nothing(self):
        promise = Promise(NAMES, all_items(NAMES))
        for sent in sequences(NAMES, range(2), 3):
            # Only equal messages are exchanged, and then nothing changes.
            self.assertEqual(derived(promise, sent, 5), [sent])

    def test_one_item_of_order(self):
        promise = Promise(NAMES, [("order", "a", "b", "less"), ("once", "a"), ("once", "b")])
        one, same, more = ("a", 0), ("b", 0), ("b", 1)
        self.assertEqual(set(derived(promise, (one, more, same), 9)),
                         {(one, more, same), (one, same, more), (same, one, more)})
        self.assertEqual(set(derived(promise, (more, one), 9)), {(more, one)})

    def test_one_item_once(self):
        promise = Promise(NAMES, [("once", "a")] + all_items(NAMES)[:-2])
        self.assertEqual(set(derived(promise, (("b", 0), ("a", 0)), 3)),
                         {(("b", 0), ("a", 0)), (("b", 0), ("b", 0), ("a", 0)), (("b", 0), ("a", 0), ("b", 0))})

    def test_an_item_is_broken_by_the_steps_that_it_alone_does_not_allow(self):
        # For each sequence, all that come by one step under no promise at all, without those of the item.
        nothing = Promise(NAMES, [])
        for sent in sequences(NAMES, range(2), 3):
            free = steps(nothing, sent, 4)
            for item in all_items(NAMES):
                allowed = steps(Promise(NAMES, [item]), sent, 4)
                for came in free:
                    self.assertEqual(shows_harm(item, sent, came), came not in allowed and came != sent)


class EnoughTest(unittest.TestCase):
    """A promise is enough if and only if nothing that can be derived under it looks different."""

    def looks_same_always(self, case, promise, numbers, length, longest):
        for program, views in zip(case.programs, case.views):
            records = {}
            for sent in sequences(program.names, numbers, length):
                for came in derived(promise, sent, longest):
                    for sequence in (sent, came):
                        if sequence not in records:
                            records[sequence] = run(program, sequence)[1]
                    if not same_records(views, records[sent], records[came]):
                        return False
        return True

    def assert_least(self, case, numbers=range(2), length=3, longest=4):
        promise = least_promise(case)
        names = case.programs[0].names
        self.assertTrue(self.looks_same_always(case, promise, numbers, length, longest))
        for item in promise.entries:
            index, sent, came = harm(case, item)
            # Under all other items the one sequence can be derived from the other one, and it looks different.
            others = Promise(names, [other for other in all_items(names) if other != item])
            self.assertFalse(is_enough(case, others))
            self.assertIn(tuple(came), steps(others, tuple(sent), len(sent) + 1))
            records = [run(case.programs[index], sequence)[1] for sequence in (sent, came)]
            self.assertFalse(same_records(case.views[index], *records))

    def test_examples(self):
        for program in (SILENT, ECHO, APART, FIRST, IN_TURN, GREATEST):
            for view in ("ordered", "unordered", "ignored"):
                self.assert_least(case_of(program, view=view))
        self.assert_least(case_of(GREATEST), range(3), 4, 5)

    def test_thresholds(self):
        for keeps_greater in (False, True):
            for written in ((1, 0, 0), (0, 1, 0), (0, 0, 1), (0, 1, 1)):
                self.assert_least(case_of(threshold(keeps_greater, *written)))
                self.assert_least(case_of(threshold(keeps_greater, *written), view="unordered"), range(3))

    def test_several_programs(self):
        self.assert_least(case_of(IN_TURN, threshold(True, True, False, False), SILENT))
        self.assert_least(Case([ECHO, APART], [["unordered"], ["ordered", "ignored"]]))

    def test_dice_programs(self):
        found = set()
        for seed in range(120):
            outputs = 1 + seed % 2
            program = some_program(seed, 2, 1 + seed % 4, 2, outputs, 1, 40)
            case = Case([program], [some_views(seed, outputs)])
            self.assert_least(case)
            found.add(least_promise(case).entries)
        self.assertGreaterEqual(len(found), 10)


if __name__ == "__main__":
    unittest.main()
