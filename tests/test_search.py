"""Points 16 and 18: the shapes of pairs, and the states to which a program can come."""

import itertools
import unittest

from orderneed.programs import Program, position, start, step
from orderneed.search import shape, states_reached
from orderneed.texts import parse_program

GREATEST = parse_program("hears a\noutput o s\nstate e 0\nstate m 1\nrule e a 0 m 0\n"
                         "rule m a 0 m 1\nrule m a 1 m 0\nrule m a 2 m 1 write o s 1")


def keep_four(names=("a", "b")):
    """Return a program with states that keep 0 to 4 numbers: at "a" one more is kept, at any other name one less."""
    rules = []
    for kept in range(5):
        more, less = [], []
        for place in range(2 * kept + 1):
            many = min(kept + 1 - place % 2, 4)
            more.append((many, tuple(range(many)), ()))
            less.append((many - 1, tuple(range(1, many)), ()))
        rules.append((tuple(more),) + (tuple(less),) * (len(names) - 1))
    return Program(names, (("o", ("s",)),), tuple((f"k{kept}", kept) for kept in range(5)), tuple(rules))


def lists(pair):
    return [[state, list(kept)] for state, kept in pair]


class ShapeTest(unittest.TestCase):
    def test_nothing_kept(self):
        self.assertEqual(shape(((0, ()), (0, ()))), ((0, ()), (0, ())))
        self.assertEqual(shape(((3, ()), (19, ()))), ((3, ()), (19, ())))

    def test_one_configuration_keeps_nothing(self):
        self.assertEqual(shape(((1, (7,)), (0, ()))), ((1, (0,)), (0, ())))
        self.assertEqual(shape(((0, ()), (2, (-5, 7)))), ((0, ()), (2, (0, 1))))

    def test_rank_is_among_the_numbers_of_both(self):
        self.assertEqual(shape(((1, (5,)), (1, (9,)))), ((1, (0,)), (1, (1,))))
        self.assertEqual(shape(((1, (9,)), (1, (5,)))), ((1, (1,)), (1, (0,))))
        self.assertEqual(shape(((2, (1, 8)), (2, (4, 6)))), ((2, (0, 3)), (2, (1, 2))))

    def test_a_number_of_both_counts_once(self):
        self.assertEqual(shape(((1, (5,)), (1, (5,)))), ((1, (0,)), (1, (0,))))
        self.assertEqual(shape(((2, (3, 9)), (2, (9, 12)))), ((2, (0, 1)), (2, (1, 2))))
        self.assertEqual(shape(((3, (2, 4, 6)), (1, (4,)))), ((3, (0, 1, 2)), (1, (1,))))

    def test_four_and_four(self):
        self.assertEqual(shape(((4, (10, 20, 30, 40)), (5, (15, 25, 35, 45)))),
                         ((4, (0, 2, 4, 6)), (5, (1, 3, 5, 7))))
        self.assertEqual(shape(((4, (10, 20, 30, 40)), (5, (20, 30, 40, 50)))),
                         ((4, (0, 1, 2, 3)), (5, (1, 2, 3, 4))))

    def test_negative_numbers_and_far_ends(self):
        self.assertEqual(shape(((2, (-1000000, 1000000)), (3, (-1, 0, 1)))), ((2, (0, 4)), (3, (1, 2, 3))))

    def test_numbers_do_not_matter_to_states(self):
        self.assertEqual(shape(((7, (7,)), (8, (8,)))), ((7, (0,)), (8, (1,))))

    def test_a_shape_is_its_own_shape(self):
        for pair in (((0, ()), (0, ())), ((1, (9,)), (2, (3, 5))), ((2, (0, 1)), (2, (1, 2)))):
            self.assertEqual(shape(shape(pair)), shape(pair))
        self.assertEqual(shape(((2, (0, 1)), (2, (1, 2)))), ((2, (0, 1)), (2, (1, 2))))

    def test_only_the_order_of_numbers_counts(self):
        for first, second in itertools.product(itertools.combinations(range(5), 2), repeat=2):
            pair = ((2, first), (2, second))
            for table in ((-7, -6, 0, 3, 99), (0, 2, 4, 6, 8), (-1000000, -1, 0, 1, 1000000)):
                moved = tuple((state, tuple(table[number] for number in kept)) for state, kept in pair)
                self.assertEqual(shape(moved), shape(pair))

    def test_lists_and_tuples(self):
        first, second = (2, (3, 9)), (2, (9, 12))
        for pair in ([first, second], lists((first, second)), (first, [2, [9, 12]]), ((2, [3, 9]), second)):
            self.assertEqual(shape(pair), ((2, (0, 1)), (2, (1, 2))))

    def test_returns_tuples(self):
        for pair in (((1, (5,)), (0, ())), lists(((1, (5,)), (0, ())))):
            found = shape(pair)
            for value in (found, *found, found[0][1], found[1][1]):
                self.assertIs(type(value), tuple)

    def test_pair_stays_as_it_was(self):
        pair = [[2, [3, 9]], [2, [9, 12]]]
        shape(pair)
        self.assertEqual(pair, [[2, [3, 9]], [2, [9, 12]]])

    def test_later_calls_change_nothing_that_was_returned(self):
        found = shape(((1, (5,)), (1, (9,))))
        shape(((1, (9,)), (1, (5,))))
        self.assertEqual(found, ((1, (0,)), (1, (1,))))

    def test_defined_here(self):
        for thing in (shape, states_reached):
            self.assertEqual(thing.__module__, "orderneed.search")


class GoingOnTest(unittest.TestCase):
    """Pairs of equal shapes go on to pairs of equal shapes (point 16)."""

    def after(self, program, pair, name, place):
        """Return the shape of a pair after a message at a position among all numbers of the pair."""
        # The numbers lie far apart here, so that there are numbers in each gap.
        numbers = sorted({number for _, kept in pair for number in kept})
        number = (numbers + [1000])[place // 2] - 1 + place % 2
        self.assertEqual(position(numbers, number), place)
        return shape(tuple(step(program, configuration, (name, number))[0] for configuration in pair))

    def test_equal_shapes_go_on_to_equal_shapes(self):
        program = keep_four()
        for many, other in itertools.product(range(4), repeat=2):
            for first in itertools.combinations(range(4), many):
                for second in itertools.combinations(range(4), other):
                    near = tuple((len(kept), tuple(10 * number for number in kept)) for kept in (first, second))
                    far = tuple((len(kept), tuple((-500, -30, 40, 700)[number] for number in kept))
                                for kept in (first, second))
                    self.assertEqual(shape(near), shape(far))
                    for name in program.names:
                        for place in range(2 * len({*first, *second}) + 1):
                            self.assertEqual(self.after(program, near, name, place),
                                             self.after(program, far, name, place))

    def test_a_shape_goes_on_as_its_pair(self):
        # The numbers of the shape are doubled, so that there are numbers in each gap.
        pair = ((1, (70,)), (1, (5,)))
        doubled = tuple((state, tuple(2 * rank for rank in kept)) for state, kept in shape(pair))
        found = [self.after(GREATEST, pair, "a", place) for place in range(5)]
        self.assertEqual(found, [self.after(GREATEST, doubled, "a", place) for place in range(5)])
        self.assertEqual(found, [((1, (1,)), (1, (0,))), ((1, (1,)), (1, (0,))), ((1, (1,)), (1, (0,))),
                                 ((1, (0,)), (1, (0,))), ((1, (0,)), (1, (0,)))])


def targets(*table):
    """Return a program with these targets: for each state, for each name, for each position."""
    # A state keeps as many numbers as its positions tell, and the rules take the least candidates.
    many = [len(by_name[0]) // 2 for by_name in table]
    rules = tuple(tuple(tuple((target, tuple(range(many[target])), ()) for target in by_position)
                        for by_position in by_name) for by_name in table)
    names = tuple("abcd"[:len(table[0])])
    states = tuple((f"s{at}", kept) for at, kept in enumerate(many))
    return Program(names, (("o", ("s",)),), states, rules)


class StatesReachedTest(unittest.TestCase):
    def test_one_state(self):
        self.assertEqual(states_reached(targets([[0]])), [0])
        self.assertEqual(states_reached(targets([[0], [0], [0], [0]])), [0])

    def test_two_states(self):
        self.assertEqual(states_reached(GREATEST), [0, 1])

    def test_states_that_are_not_reached(self):
        self.assertEqual(states_reached(targets([[0]], [[0]])), [0])
        self.assertEqual(states_reached(targets([[2]], [[2]], [[0]])), [0, 2])
        # The states 1 and 3 lead to each other and to others, but nothing leads to them.
        self.assertEqual(states_reached(targets([[4]], [[3]], [[2]], [[1]], [[2]])), [0, 4, 2])

    def test_first_state_comes_first(self):
        self.assertEqual(states_reached(targets([[1]], [[2]], [[0]])), [0, 1, 2])
        self.assertEqual(states_reached(targets([[2]], [[0]], [[1]])), [0, 2, 1])

    def test_name_by_name(self):
        self.assertEqual(states_reached(targets([[2], [1]], [[1], [1]], [[2], [2]])), [0, 2, 1])
        self.assertEqual(states_reached(targets([[3], [1], [2]], *[[[0], [0], [0]]] * 3)), [0, 3, 1, 2])

    def test_position_by_position(self):
        table = [[[1], [1]], [[4, 2, 3], [5, 6, 1]]] + [[[0], [0]]] * 5
        self.assertEqual(states_reached(targets(*table)), [0, 1, 4, 2, 3, 5, 6])

    def test_state_by_state_in_the_order_of_the_list(self):
        # State 3 is reached before state 1, so its targets come before those of state 1.
        table = [[[3], [1]], [[5], [4]], [[0], [0]], [[6], [2]], [[0], [0]], [[0], [0]], [[0], [0]]]
        self.assertEqual(states_reached(targets(*table)), [0, 3, 1, 6, 2, 5, 4])

    def test_breadth_before_depth(self):
        self.assertEqual(states_reached(targets([[1], [2]], [[3], [3]], [[4], [4]], [[0], [0]], [[0], [0]])),
                         [0, 1, 2, 3, 4])

    def test_each_once(self):
        self.assertEqual(states_reached(targets([[1], [1]], [[1], [0]])), [0, 1])

    def test_only_the_last_position_leads_on(self):
        self.assertEqual(states_reached(targets([[1]], [[1, 1, 2]], [[2]])), [0, 1, 2])

    def test_twenty_states(self):
        chain = [[[at + 1]] for at in range(19)] + [[[0]]]
        self.assertEqual(states_reached(targets(*chain)), list(range(20)))
        back = [[[19]]] + [[[max(at - 1, 1)]] for at in range(1, 20)]
        self.assertEqual(states_reached(targets(*back)), [0] + list(range(19, 0, -1)))

    def test_these_are_the_states_after_messages(self):
        for program in (GREATEST, keep_four(), keep_four(("a",)), targets([[2]], [[2]], [[0]]),
                        targets([[1], [1]], [[3, 1, 1], [1, 1, 4]], [[0], [0]], [[3], [3]], [[4], [0]])):
            messages = list(itertools.product(program.names, range(12)))
            found, new = {start(program)}, [start(program)]
            while new:
                after = {step(program, configuration, message)[0] for configuration in new for message in messages}
                new = sorted(after - found)
                found |= after
            self.assertEqual(sorted(states_reached(program)), sorted({state for state, _ in found}))

    def test_kinds(self):
        found = states_reached(GREATEST)
        self.assertIs(type(found), list)
        for state in found:
            self.assertIs(type(state), int)

    def test_changes_of_what_was_returned_do_not_matter(self):
        first = states_reached(GREATEST)
        second = states_reached(GREATEST)
        second.reverse()
        second.append(7)
        self.assertEqual(first, [0, 1])
        self.assertEqual(states_reached(GREATEST), [0, 1])
        states_reached(targets([[0]]))
        self.assertEqual(first, [0, 1])

    def test_program_stays_as_it_was(self):
        program = keep_four()
        states_reached(program)
        self.assertEqual(program, keep_four())


if __name__ == "__main__":
    unittest.main()
