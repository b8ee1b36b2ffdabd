"""Points 16 and 17: with which messages a pair can go on, and the search with its order and its bound."""

import copy
import unittest

from examples import (AT_THE_BOUND, DEAF_SHAPES_AT_THE_BOUND, ECHO, GREATEST, JUST_FITTING, SHAPES_AT_THE_BOUND,
                      SILENT, case_of)
from orderneed.certificates import certificate
from orderneed.errors import TooLarge
from orderneed.needs import deaf_names, harm, is_enough, least_promise, noticed
from orderneed.programs import Program, position
from orderneed.promises import Promise, all_items
from orderneed.search import Viewed, number_at, search, shape
from reference import DIFFERENCE, TOO_LARGE, search_from, some_program, some_views, start_of, start_of_name

OUTPUTS = (("o", ("s", "t")),)


def of_states(*table):
    """Return a program whose states keep nothing: for each state, for each name, the target and what is written."""
    rules = tuple(tuple(((target, (), tuple((0, signal, 0) for signal in signals)),) for target, signals in by_name)
                  for by_name in table)
    states = tuple((f"s{at}", 0) for at in range(len(table)))
    return Program(tuple("abcd"[:len(table[0])]), OUTPUTS, states, rules)


def pairs_of(many, others):
    """Return the pairs of each of many states with each of others."""
    return [((first, ()), (second, ())) for first in many for second in others]


def shapes_from(program, pairs, views=("ordered",)):
    """Return the shapes that a search keeps, and its messages to a difference, or None."""
    return search(Viewed(program, views), pairs)


class NumberAtTest(unittest.TestCase):
    def test_each_position_has_a_number_there(self):
        for numbers in ([], [0], [0, 2], [-8, 0, 4, 6], [2, 4, 6, 8, 10, 12, 14, 16]):
            for place in range(2 * len(numbers) + 1):
                for width in (2, 4, 64):
                    self.assertEqual(position(numbers, number_at(numbers, place, width)), place)

    def test_outside_it_is_a_width_away(self):
        self.assertEqual(number_at([0, 16], 0, 16), -16)
        self.assertEqual(number_at([0, 16], 4, 16), 32)
        self.assertEqual(number_at([0, 16], 2, 16), 8)


class FollowTest(unittest.TestCase):
    """With which messages a pair goes on, and in which order."""

    def test_name_by_name_and_position_by_position(self):
        # A shape stands beside the first message that leads there.
        pair = ((1, (1,)), (1, (0,)))
        self.assertEqual(Viewed(GREATEST, ["ignored"]).follow(pair), [
            (((1, (1,)), (1, (0,))), ("a", 0)), (((1, (0,)), (1, (0,))), ("a", 3))])

    def test_a_difference_ends_the_list(self):
        # At position 2 only the second configuration writes.
        self.assertEqual(Viewed(GREATEST, ["ordered"]).follow(((1, (1,)), (1, (0,)))), [
            (((1, (1,)), (1, (0,))), ("a", 0)), (None, ("a", 2))])
        self.assertEqual(Viewed(ECHO, ["ordered", "ordered"]).follow(((0, ()), (0, ()))),
                         [(((0, ()), (0, ())), ("a", 0))])

    def test_there_is_a_number_in_each_gap(self):
        # Each position leads to another shape here.
        rules = ((((1, (0,), ()),),), (tuple((1, (0 if place != 1 else 0,), ()) for place in range(3)),))
        keeper = Program(("a",), OUTPUTS, (("e", 0), ("m", 1)), rules)
        found = [after for after, _ in Viewed(keeper, ["ordered"]).follow(((1, (0,)), (1, (1,))))]
        # Both keep the least number: a new least one below, else what they have, or the number between them.
        self.assertEqual(found, [((1, (0,)), (1, (0,))), ((1, (0,)), (1, (1,)))])
        self.assertEqual([message for _, message in Viewed(keeper, ["ordered"]).follow(((1, (0,)), (1, (1,))))],
                         [("a", 0), ("a", 2)])

    def test_spoiling_what_follows_does_not_matter(self):
        viewed = Viewed(GREATEST, ["ordered"])
        pair = ((1, (0,)), (1, (0,)))
        before = copy.deepcopy(viewed.outcomes(pair))
        self.assertEqual(viewed.outcomes(pair), before)
        self.assertEqual(viewed.follow(pair), before)


class SearchTest(unittest.TestCase):
    def test_shapes_of_the_pairs_come_first_each_once(self):
        pairs = [((1, (7,)), (1, (3,))), ((1, (2,)), (1, (2,))), ((1, (9,)), (1, (4,))), ((0, ()), (0, ()))]
        shapes, found = shapes_from(GREATEST, pairs, ["ignored"])
        self.assertEqual(shapes, [((1, (1,)), (1, (0,))), ((1, (0,)), (1, (0,))), ((0, ()), (0, ()))])
        self.assertIsNone(found)

    def test_each_shape_is_followed_in_the_order_in_which_it_was_kept(self):
        program = of_states([(1, ""), (2, "")], [(3, ""), (4, "")], [(5, ""), (6, "")], *[[(7, ""), (7, "")]] * 4,
                            [(7, ""), (0, "")])
        shapes, found = shapes_from(program, pairs_of([0], [0]))
        self.assertEqual([first for (first, _), _ in shapes], [0, 1, 2, 3, 4, 5, 6, 7])
        self.assertIsNone(found)

    def test_no_pairs(self):
        self.assertEqual(shapes_from(SILENT, []), ([], None))

    def test_way_to_a_difference(self):
        # The states 2 and 3 write different signals at "b" only.
        program = of_states([(0, ""), (0, "")], [(2, ""), (1, "")], [(2, ""), (2, "s")], [(3, ""), (3, "t")],
                            [(3, ""), (4, "")])
        pairs = pairs_of([0], [0]) + pairs_of([1], [4])
        self.assertEqual(shapes_from(program, pairs),
                         ([((0, ()), (0, ())), ((1, ()), (4, ())), ((2, ()), (3, ()))], (1, [("a", 0), ("b", 0)])))
        for views in (["ordered"], ["unordered"]):
            self.assertIsNotNone(shapes_from(program, pairs, views)[1])
        self.assertIsNone(shapes_from(program, pairs, ["ignored"])[1])

    def test_the_view_decides(self):
        program = of_states([(0, "st")], [(1, "ts")])
        for view, same in (("ordered", False), ("unordered", True), ("ignored", True)):
            self.assertEqual(shapes_from(program, pairs_of([0], [1]), [view])[1] is None, same)

    def test_a_thousand_pairs_and_one_more(self):
        silent = of_states(*[[(at, "")] for at in range(40)])
        pairs = pairs_of(range(25), range(40))
        self.assertEqual(len(shapes_from(silent, pairs)[0]), 1000)
        self.assertEqual(len(shapes_from(silent, pairs + pairs)[0]), 1000)
        with self.assertRaises(TooLarge):
            shapes_from(silent, pairs + pairs_of([25], [0]))

    def test_pairs_are_kept_ahead_of_the_first_message(self):
        loud = of_states(*[[(at, "s" if at == 0 else "")] for at in range(40)])
        pairs = pairs_of(range(25), range(40))
        self.assertEqual(shapes_from(loud, pairs)[1], (1, [("a", 0)]))
        with self.assertRaises(TooLarge):
            shapes_from(loud, pairs + pairs_of([25], [0]))

    def test_whichever_comes_first_decides(self):
        # The first pair goes on to one more shape by one name, and differs at the other one.
        silent = [[(at, ""), (at, "")] for at in range(2, 40)]
        new_first = of_states([(39, ""), (0, "s")], [(38, ""), (1, "")], *silent)
        loud_first = of_states([(0, "s"), (39, "")], [(1, ""), (38, "")], *silent)
        others = [pair for pair in pairs_of(range(2, 40), range(2, 40)) if pair != ((39, ()), (38, ()))]
        pairs = pairs_of([0], [1]) + others[:999]
        with self.assertRaises(TooLarge):
            shapes_from(new_first, pairs)
        self.assertEqual(shapes_from(loud_first, pairs)[1], (0, [("a", 0)]))
        # With one pair less there is room for the shape.
        self.assertEqual(shapes_from(new_first, pairs[:999])[1], (0, [("b", 0)]))

    def test_pairs_stay_as_they_were(self):
        pairs = [[[1, [7]], [1, [3]]], [[1, [2]], [1, [2]]]]
        before = copy.deepcopy(pairs)
        shapes_from(GREATEST, pairs, ["ordered"])
        self.assertEqual(pairs, before)


class BoundTest(unittest.TestCase):
    """Searches that keep exactly 1000 shapes, and such as would keep exactly one more."""

    def shapes_kept(self, program, start):
        return len(search_from(program, ["ordered"], start, 2000))

    def test_items(self):
        case = case_of(AT_THE_BOUND)
        self.assertLessEqual({1000, 1001}, set(SHAPES_AT_THE_BOUND.values()))
        for item, many in SHAPES_AT_THE_BOUND.items():
            self.assertEqual(self.shapes_kept(AT_THE_BOUND, start_of(AT_THE_BOUND, ["ordered"], item)), many)
            if many <= 1000:
                self.assertIsNone(harm(case, item))
                self.assertEqual(len(certificate(case, 0, item)[2]), many)
            else:
                self.assertRaises(TooLarge, harm, case, item)
                self.assertRaises(TooLarge, certificate, case, 0, item)

    def test_names(self):
        case = case_of(AT_THE_BOUND)
        self.assertEqual(set(DEAF_SHAPES_AT_THE_BOUND.values()), {1000, 1001})
        for name, many in DEAF_SHAPES_AT_THE_BOUND.items():
            self.assertEqual(self.shapes_kept(AT_THE_BOUND, start_of_name(AT_THE_BOUND, ["ordered"], name)), many)
            if many <= 1000:
                self.assertIsNone(noticed(case, name))
            else:
                self.assertRaises(TooLarge, noticed, case, name)

    def test_all_items_and_names(self):
        case = case_of(JUST_FITTING)
        found = [len(certificate(case, 0, item)[2]) for item in all_items(JUST_FITTING.names)]
        self.assertEqual(max(found), 1000)
        self.assertEqual(least_promise(case).entries, ())
        self.assertTrue(is_enough(case, Promise(JUST_FITTING.names, [])))
        self.assertEqual({self.shapes_kept(JUST_FITTING, start_of_name(JUST_FITTING, ["ordered"], name))
                          for name in JUST_FITTING.names}, {1000})
        self.assertEqual(deaf_names(case), ["a", "b"])


class ReferenceTest(unittest.TestCase):
    """The search of dice programs, from the pairs of the items, against the one that is written word by word."""

    def test_dice_programs(self):
        ends = set()
        for seed in range(120):
            outputs = 1 + seed % 2
            program = some_program(seed, 1 + seed % 3, 2 + seed % 5, 2, outputs, 2, 4)
            views = some_views(seed, outputs)
            for item in [("order", "a", "a", "less"), ("once", "a"), ("order", "a", "b", "equal")][:2 + seed % 3]:
                if set(item[1:3]) & {"b"} and "b" not in program.names:
                    continue
                pairs, _ = start_of(program, views, item)
                expected = search_from(program, views, (pairs, False))
                ends.add(expected if isinstance(expected, str) else "safe")
                if expected == TOO_LARGE:
                    self.assertRaises(TooLarge, search, Viewed(program, views), pairs)
                    continue
                shapes, found = search(Viewed(program, views), pairs)
                self.assertEqual(found is not None, expected == DIFFERENCE)
                if found is None:
                    self.assertEqual(shapes, expected)
                self.assertEqual(shapes, [shape(pair) for pair in shapes])
        self.assertEqual(ends, {"safe", DIFFERENCE})


if __name__ == "__main__":
    unittest.main()
