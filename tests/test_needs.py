"""Points 19 to 22 and 24: which items are needed, the least promise, and what is enough."""

import copy
import unittest

from examples import (APART, AT_THE_BOUND, ECHO, FIRST, GREATEST, IN_TURN, SHAPES_AT_THE_BOUND, SILENT,
                      TOO_LARGE_ITEMS, case_of, echoing, lock, narrowing, threshold)
from orderneed.cases import Case, same_records
from orderneed.errors import OrderError, TooLarge
from orderneed.needs import harm, is_enough, least_promise
from orderneed.programs import Program, run
from orderneed.promises import Promise, all_items, shows_harm
from reference import DIFFERENCE, TOO_LARGE, search_from, some_program, some_views, start_of

NAMES = ("a", "b")
ITEMS = all_items(NAMES)
A_A, A_LESS_B, A_EQUAL_B, A_GREATER_B, B_B, ONCE_A, ONCE_B = ITEMS
A_AND_B = [A_LESS_B, A_EQUAL_B, A_GREATER_B]
LARGE_BUT_LOUD = echoing(AT_THE_BOUND)


class HarmAssertions(unittest.TestCase):
    def assert_shows_harm(self, case, item, found):
        """Check the index, and the two sequences, that are returned for an item."""
        self.assertIs(type(found), tuple)
        index, sent, came = found
        program, views = case.programs[index], case.views[index]
        self.assertTrue(shows_harm(item, sent, came), (item, found))
        self.assertFalse(same_records(views, run(program, sent)[1], run(program, came)[1]), (item, found))
        for sequence in (sent, came):
            self.assertIs(type(sequence), list)
            for message in sequence:
                self.assertIs(type(message), tuple)
                self.assertIn(message[0], program.names)
                self.assertIs(type(message[1]), int)
                self.assertTrue(0 <= message[1] <= max(len(sent), len(came)), found)

    def assert_needed(self, case, items):
        """Check that these items are needed by the only program of a case, and no others."""
        for item in all_items(case.programs[0].names):
            found = harm(case, item)
            if item in items:
                self.assert_shows_harm(case, item, found)
                self.assertEqual(found[0], 0)
            else:
                self.assertIsNone(found, item)
        self.assertEqual(least_promise(case).entries, tuple(items))


class HarmTest(HarmAssertions):
    def test_nothing_is_written(self):
        self.assert_needed(case_of(SILENT), [])

    def test_greatest(self):
        self.assert_needed(case_of(GREATEST), [("order", "a", "a", "less")])
        self.assert_needed(case_of(GREATEST, view="unordered"), [("order", "a", "a", "less")])
        self.assert_needed(case_of(GREATEST, view="ignored"), [])

    def test_everything_is_written(self):
        self.assert_needed(case_of(ECHO), ITEMS)
        self.assert_needed(case_of(ECHO, view="unordered"), [ONCE_A, ONCE_B])
        self.assert_needed(case_of(ECHO, view="ignored"), [])

    def test_names_that_are_written_apart(self):
        self.assert_needed(case_of(APART), [A_A, B_B, ONCE_A, ONCE_B])
        self.assert_needed(case_of(APART, view="unordered"), [ONCE_A, ONCE_B])

    def test_each_output_by_its_view(self):
        self.assert_needed(Case([APART], [["ordered", "unordered"]]), [A_A, ONCE_A, ONCE_B])
        self.assert_needed(Case([APART], [["ignored", "ordered"]]), [B_B, ONCE_B])
        self.assert_needed(Case([APART], [["unordered", "ignored"]]), [ONCE_A])

    def test_only_the_first_message_counts(self):
        # Equal messages "a" are the same wherever the second one comes.
        self.assert_needed(case_of(FIRST), [A_A] + A_AND_B)

    def test_signals_in_turn(self):
        self.assert_needed(case_of(IN_TURN), [A_A, ONCE_A])

    def test_relations(self):
        # With the greatest "a", what is written at "b" changes only by an "a" that is greater.
        greater = threshold(True, True, False, False)
        self.assert_needed(case_of(greater), [A_GREATER_B, B_B, ONCE_B])
        self.assert_needed(case_of(greater, view="unordered"), [A_GREATER_B, ONCE_B])
        self.assert_needed(case_of(threshold(True, True, True, False)), [A_EQUAL_B, A_GREATER_B, B_B, ONCE_B])
        self.assert_needed(case_of(threshold(True, False, True, False)), [A_EQUAL_B, A_GREATER_B, ONCE_B])
        # With the least "a" it is the other way round.
        self.assert_needed(case_of(threshold(False, False, False, True)), [A_LESS_B, B_B, ONCE_B])
        self.assert_needed(case_of(threshold(False, False, True, True)), [A_LESS_B, A_EQUAL_B, B_B, ONCE_B])
        self.assert_needed(case_of(threshold(False, False, True, False)), [A_LESS_B, A_EQUAL_B, ONCE_B])
        # Before the first "a" nothing is written, so each relation matters here.
        self.assert_needed(case_of(threshold(True, False, False, True)), A_AND_B + [B_B, ONCE_B])

    def test_first_program_that_needs_the_item(self):
        greater = threshold(True, True, False, False)
        case = case_of(SILENT, greater, ECHO)
        for item in ITEMS:
            found = harm(case, item)
            self.assert_shows_harm(case, item, found)
            self.assertEqual(found[0], 1 if item in (A_GREATER_B, B_B, ONCE_B) else 2)
        self.assertEqual(harm(case_of(ECHO, SILENT, greater), A_GREATER_B)[0], 0)

    def test_views_belong_to_their_program(self):
        case = Case([ECHO, ECHO, ECHO], [["ignored"], ["unordered"], ["ordered"]])
        self.assertEqual([harm(case, item)[0] for item in ITEMS], [2, 2, 2, 2, 2, 1, 1])

    def test_items_as_lists(self):
        for item in ITEMS:
            self.assertEqual(harm(case_of(ECHO), list(item)), harm(case_of(ECHO), item))
            self.assertIsNone(harm(case_of(SILENT), list(item)))

    def test_unreached_states_do_not_count(self):
        # Nothing leads to the state l, which writes.
        program = Program(NAMES, ECHO.outputs, (("e", 0), ("l", 0)), (
            (((0, (), ()),), ((0, (), ()),)), (((1, (), ((0, "s", 0),)),), ((1, (), ((0, "t", 0),)),))))
        self.assert_needed(case_of(program), [])

    def test_differences_that_are_far_away(self):
        for key in ("aabab", "abbbbaab", "babbaaba"):
            case = case_of(lock(key))
            item = ("order", key[0], "c", "less")
            found = harm(case, item)
            self.assert_shows_harm(case, item, found)
            self.assertEqual(len(found[1]), len(key) + 1)
            # "c" may come again at the beginning, though it was sent in the middle.
            self.assert_shows_harm(case, ("once", "c"), harm(case, ("once", "c")))

    def test_numbers_between_others_again_and_again(self):
        for many in (3, 8, 17):
            case = case_of(narrowing(many))
            for item in all_items(["a"]):
                found = harm(case, item)
                self.assert_shows_harm(case, item, found)
                self.assertGreaterEqual(len(found[2]), many)

    def test_four_names(self):
        names = ("w", "x", "y", "z")
        rule = (((0, (), ((0, "s", 0),)),),)
        program = Program(names, (("o", ("s",)),), (("e", 0),), (rule * 4,))
        # Equal numbers of different names are written alike.
        self.assert_needed(case_of(program), [item for item in all_items(names) if item[-1] != "equal"])


class TooLargeTest(HarmAssertions):
    def test_the_search_of_the_only_program(self):
        for item, many in SHAPES_AT_THE_BOUND.items():
            if many > 1000:
                self.assertRaises(TooLarge, harm, case_of(AT_THE_BOUND), item)
            else:
                self.assertIsNone(harm(case_of(AT_THE_BOUND), item))

    def test_it_is_an_order_error(self):
        self.assertTrue(issubclass(TooLarge, OrderError))

    def test_a_program_behind_the_first_that_needs_the_item_does_not_matter(self):
        case = case_of(ECHO, AT_THE_BOUND)
        for item in ITEMS:
            found = harm(case, item)
            self.assertEqual(found[0], 0)
            self.assert_shows_harm(case, item, found)
        case = case_of(SILENT, ECHO, AT_THE_BOUND)
        self.assertEqual([harm(case, item)[0] for item in ITEMS], [1] * len(ITEMS))

    def test_a_program_ahead_of_the_first_that_needs_the_item_matters(self):
        for item in TOO_LARGE_ITEMS:
            self.assertRaises(TooLarge, harm, case_of(AT_THE_BOUND, ECHO), item)
            self.assertRaises(TooLarge, harm, case_of(SILENT, AT_THE_BOUND, ECHO), item)
            self.assertRaises(TooLarge, harm, case_of(SILENT, AT_THE_BOUND), item)

    def test_there_is_no_search_where_the_start_has_a_difference(self):
        case = case_of(LARGE_BUT_LOUD)
        for item in TOO_LARGE_ITEMS:
            pairs, differs = start_of(LARGE_BUT_LOUD, ["ordered"], item)
            self.assertTrue(differs)
            self.assertEqual(search_from(LARGE_BUT_LOUD, ["ordered"], (pairs, False)), TOO_LARGE)
        self.assert_needed(case, ITEMS)
        self.assertTrue(is_enough(case, Promise(NAMES, ITEMS)))
        # Where order does not matter, the start of an item of order has no difference.
        self.assertRaises(TooLarge, harm, case_of(LARGE_BUT_LOUD, view="unordered"), A_LESS_B)
        self.assertIsNotNone(harm(case_of(LARGE_BUT_LOUD, view="unordered"), ONCE_B))

    def test_least_promise_also_behind_a_program_that_needs_the_item(self):
        for programs in ([AT_THE_BOUND], [AT_THE_BOUND, ECHO], [ECHO, AT_THE_BOUND], [SILENT, ECHO, AT_THE_BOUND]):
            self.assertRaises(TooLarge, least_promise, case_of(*programs))

    def test_is_enough_whatever_the_promise_has(self):
        for programs in ([AT_THE_BOUND], [AT_THE_BOUND, ECHO], [ECHO, AT_THE_BOUND]):
            for items in ([], ITEMS, TOO_LARGE_ITEMS, ITEMS[:-2]):
                self.assertRaises(TooLarge, is_enough, case_of(*programs), Promise(NAMES, items))


class LeastPromiseTest(unittest.TestCase):
    def test_items_of_all_programs(self):
        greater = threshold(True, True, False, False)
        self.assertEqual(least_promise(case_of(greater)).entries, (A_GREATER_B, B_B, ONCE_B))
        self.assertEqual(least_promise(case_of(greater, IN_TURN)).entries, (A_A, A_GREATER_B, B_B, ONCE_A, ONCE_B))
        self.assertEqual(least_promise(case_of(IN_TURN, SILENT, FIRST)).entries,
                         (A_A, A_LESS_B, A_EQUAL_B, A_GREATER_B, ONCE_A))
        self.assertEqual(least_promise(Case([ECHO, APART], [["ignored"], ["unordered", "ordered"]])).entries,
                         (B_B, ONCE_A, ONCE_B))

    def test_kind_and_names(self):
        promise = least_promise(case_of(GREATEST))
        self.assertIs(type(promise), Promise)
        self.assertEqual(promise.names, ("a",))
        self.assertEqual(least_promise(case_of(SILENT)).names, NAMES)
        self.assertEqual(least_promise(case_of(SILENT)).entries, ())

    def test_it_is_enough_and_nothing_less_is(self):
        for case in (case_of(GREATEST), case_of(ECHO), case_of(APART), case_of(FIRST), case_of(IN_TURN, APART)):
            promise = least_promise(case)
            items = list(promise.entries)
            self.assertIs(is_enough(case, promise), True)
            self.assertIs(is_enough(case, Promise(promise.names, all_items(promise.names))), True)
            for item in items:
                left = [other for other in items if other != item]
                self.assertIs(is_enough(case, Promise(promise.names, left)), False)
                others = [other for other in all_items(promise.names) if other != item]
                self.assertIs(is_enough(case, Promise(promise.names, others)), False)

    def test_more_than_the_least_promise(self):
        case = case_of(threshold(True, True, False, False))
        self.assertTrue(is_enough(case, Promise(NAMES, [A_GREATER_B, B_B, ONCE_B])))
        self.assertTrue(is_enough(case, Promise(NAMES, [ONCE_A, A_GREATER_B, ONCE_B, B_B])))
        self.assertFalse(is_enough(case, Promise(NAMES, [ONCE_A, A_LESS_B, ONCE_B, B_B])))
        self.assertTrue(is_enough(case_of(SILENT), Promise(NAMES, [])))
        self.assertFalse(is_enough(case_of(ECHO), Promise(NAMES, [])))

    def test_weaker_views_need_no_more(self):
        order = ("ordered", "unordered", "ignored")
        for seed in range(60):
            program = some_program(seed, 2, 3, 1, 2, 2, 40)
            needed = {(one, other): set(least_promise(Case([program], [[one, other]])).entries)
                      for one in order for other in order}
            for (one, other), items in needed.items():
                for weaker in order[order.index(one):]:
                    self.assertLessEqual(needed[weaker, other], items)
                for weaker in order[order.index(other):]:
                    self.assertLessEqual(needed[one, weaker], items)


class ReferenceTest(HarmAssertions):
    """Dice programs, against the search that is written word by word."""

    def test_dice_programs(self):
        lengths = set()
        for seed in range(150):
            outputs = 1 + seed % 3
            program = some_program(seed, 1 + seed % 3, 1 + seed % 4, 2, outputs, 2, 15)
            views = some_views(seed, outputs)
            case = Case([program], [views])
            needed = [item for item in all_items(program.names)
                      if search_from(program, views, start_of(program, views, item)) == DIFFERENCE]
            self.assert_needed(case, needed)
            lengths.update(len(harm(case, item)[2]) for item in needed)
        # Some differences are seen at the start, others only by searching on.
        self.assertGreaterEqual(len(lengths), 4)


class UnchangedTest(unittest.TestCase):
    def test_arguments_stay_as_they_were(self):
        case = case_of(ECHO, Program(NAMES, ECHO.outputs, ECHO.states, ECHO.rules))
        item = ["order", "a", "b", "less"]
        promise = Promise(NAMES, [ONCE_A])
        before = copy.deepcopy((case.programs, case.views, item, promise.entries))
        harm(case, item)
        least_promise(case)
        is_enough(case, promise)
        self.assertEqual((case.programs, case.views, item, promise.entries), before)

    def test_the_same_question_has_the_same_answer(self):
        case = case_of(ECHO, threshold(True, True, False, False))
        for item in ITEMS:
            first = harm(case, item)
            before = copy.deepcopy(first)
            first[1].clear()
            first[2].append("spoilt")
            again = harm(case, item)
            self.assertEqual(again, before)
            harm(case, ITEMS[0])
            self.assertEqual(again, before)
        self.assertEqual(least_promise(case).entries, least_promise(case).entries)

    def test_defined_here(self):
        for thing in (harm, least_promise, is_enough):
            self.assertEqual(thing.__module__, "orderneed.needs")


if __name__ == "__main__":
    unittest.main()
