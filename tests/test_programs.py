"""Points 1 to 6: programs, and what they keep and write when they hear messages."""

import copy
import unittest

from orderneed import programs
from orderneed.programs import Program, position, run, start, step

NAMES = ("a", "b")
OUTPUTS = (("o", ("s", "t")), ("p", ("s",)), ("q", ("u",)))
STATES = tuple((f"k{kept}", kept) for kept in range(5))

# The rules of "a" keep as many candidates as they can and write to two outputs; those of "b" drop candidates.
TO_O = (0, "s")
TO_P = (1, "s")


def candidates_at(kept, place):
    return kept + 1 - place % 2


def rule_of_a(kept, place):
    many = candidates_at(kept, place)
    sources = tuple(range(many))[:4]
    writes = (TO_O + (many - 1,), TO_P + (0,))
    return (len(sources), sources, writes)


def rule_of_b(kept, place):
    if kept == 0:
        return (0, (), ())
    # From three kept numbers on, the ends stay and the middle goes; below that, only the greatest stays.
    last = candidates_at(kept, place) - 1
    if kept >= 3:
        return (2, (0, last), ((0, "t", last), (0, "s", 0), (1, "s", 1), (0, "t", last)))
    return (1, (last,), ((0, "t", 0),))


def make_program():
    rules = tuple(
        tuple(tuple(rule(kept, place) for place in range(2 * kept + 1)) for rule in (rule_of_a, rule_of_b))
        for _, kept in STATES
    )
    return Program(NAMES, OUTPUTS, STATES, rules)


PROGRAM = make_program()


class ProgramTest(unittest.TestCase):
    def test_attributes(self):
        self.assertEqual(PROGRAM.names, NAMES)
        self.assertEqual(PROGRAM.outputs, OUTPUTS)
        self.assertEqual(PROGRAM.states, STATES)
        self.assertEqual(len(PROGRAM.rules), 5)
        self.assertEqual([len(by_position) for by_position in PROGRAM.rules[4]], [9, 9])

    def test_attributes_are_tuples(self):
        program = Program(list(NAMES), list(OUTPUTS), list(STATES), list(PROGRAM.rules))
        for value in (program.names, program.outputs, program.states, program.rules):
            self.assertIs(type(value), tuple)
        self.assertEqual(program, PROGRAM)

    def test_later_changes_of_the_arguments_do_not_matter(self):
        arguments = [list(NAMES), list(OUTPUTS), list(STATES), list(PROGRAM.rules)]
        program = Program(*arguments)
        for argument in arguments:
            argument.clear()
        self.assertEqual(program, PROGRAM)

    def test_arguments_stay_as_they_were(self):
        arguments = [list(NAMES), list(OUTPUTS), list(STATES), list(PROGRAM.rules)]
        before = copy.deepcopy(arguments)
        Program(*arguments)
        self.assertEqual(arguments, before)

    def test_checks_nothing(self):
        self.assertEqual(Program((), (), (), ()).rules, ())
        self.assertEqual(Program(("A", "A"), (), (("e", 9),), ()).states, (("e", 9),))

    def test_equal(self):
        self.assertTrue(PROGRAM == make_program())
        self.assertFalse(PROGRAM != make_program())

    def test_each_part_matters(self):
        parts = [NAMES, OUTPUTS, STATES, PROGRAM.rules]
        for at in range(4):
            for other in (parts[at][1:], parts[at][::-1], ()):
                with self.subTest(at=at, other=other):
                    changed = Program(*(parts[:at] + [other] + parts[at + 1:]))
                    self.assertFalse(PROGRAM == changed)
                    self.assertTrue(PROGRAM != changed)

    def test_not_equal_to_other_kinds(self):
        parts = (NAMES, OUTPUTS, STATES, PROGRAM.rules)
        for other in (None, 0, "", "program", parts, list(parts), {}, object(), Program):
            with self.subTest(other):
                self.assertFalse(PROGRAM == other)
                self.assertTrue(PROGRAM != other)

    def test_the_interface_is_defined_here(self):
        for thing in (Program, start, position, step, run):
            self.assertEqual(thing.__module__, "orderneed.programs")
        self.assertIn("__eq__", vars(programs.Program))


class StartTest(unittest.TestCase):
    def test_first_state_without_numbers(self):
        self.assertEqual(start(PROGRAM), (0, ()))

    def test_kinds(self):
        configuration = start(PROGRAM)
        self.assertIs(type(configuration), tuple)
        self.assertIs(type(configuration[1]), tuple)

    def test_empty_sequence_ends_at_the_start(self):
        self.assertEqual(run(PROGRAM, [])[0], start(PROGRAM))


class PositionTest(unittest.TestCase):
    def test_nothing_kept(self):
        for number in (-1000000, -1, 0, 7, 1000000):
            self.assertEqual(position((), number), 0)

    def test_one_kept(self):
        self.assertEqual([position((5,), number) for number in (4, 5, 6)], [0, 1, 2])

    def test_four_kept(self):
        kept = (10, 20, 30, 40)
        numbers = (9, 10, 15, 20, 29, 30, 31, 40, 41)
        self.assertEqual([position(kept, number) for number in numbers], [0, 1, 2, 3, 4, 5, 6, 7, 8])

    def test_neighbours_and_far_ends(self):
        kept = (0, 1, 2, 3)
        self.assertEqual([position(kept, number) for number in kept], [1, 3, 5, 7])
        self.assertEqual(position(kept, -1000000), 0)
        self.assertEqual(position(kept, 1000000), 8)

    def test_negative_numbers(self):
        kept = (-1000000, -7, -1, 0)
        numbers = (-1000001, -1000000, -8, -7, -3, -1, 0, 1)
        self.assertEqual([position(kept, number) for number in numbers], [0, 1, 2, 3, 4, 5, 7, 8])

    def test_list(self):
        kept = [-2, 4]
        self.assertEqual([position(kept, number) for number in (-3, -2, 0, 4, 5)], [0, 1, 2, 3, 4])
        self.assertEqual(kept, [-2, 4])

    def test_integer(self):
        for number in (0, 1, 2):
            self.assertIs(type(position((1,), number)), int)


class StepTest(unittest.TestCase):
    def test_new_number_comes_among_the_candidates(self):
        self.assertEqual(step(PROGRAM, (0, ()), ("a", 7)), ((1, (7,)), ((0, "s", 7), (1, "s", 7))))
        self.assertEqual(step(PROGRAM, (1, (7,)), ("a", 3))[0], (2, (3, 7)))
        self.assertEqual(step(PROGRAM, (1, (7,)), ("a", 9))[0], (2, (7, 9)))
        self.assertEqual(step(PROGRAM, (2, (3, 9)), ("a", 5))[0], (3, (3, 5, 9)))

    def test_kept_number_is_a_candidate_once(self):
        self.assertEqual(step(PROGRAM, (1, (7,)), ("a", 7)), ((1, (7,)), ((0, "s", 7), (1, "s", 7))))
        for number in (3, 5, 9):
            with self.subTest(number):
                configuration, written = step(PROGRAM, (3, (3, 5, 9)), ("a", number))
                self.assertEqual(configuration, (3, (3, 5, 9)))
                self.assertEqual(written, ((0, "s", 9), (1, "s", 3)))

    def test_rule_is_that_of_the_state_the_name_and_the_position(self):
        marked = tuple(
            tuple(tuple((0, (), ((0, "s", 0),) * (state + name) + ((0, "t", 0),) * (place % 3))
                         for place in range(2 * state + 1)) for name in range(2))
            for state in range(3)
        )
        program = Program(NAMES, OUTPUTS, STATES[:3], marked)
        for state, kept in ((0, ()), (1, (5,)), (2, (5, 8))):
            for name in range(2):
                for number in range(4, 10):
                    with self.subTest(state=state, name=name, number=number):
                        _, written = step(program, (state, kept), (NAMES[name], number))
                        signals = [signal for _, signal, _ in written]
                        place = position(kept, number)
                        self.assertEqual(signals, ["s"] * (state + name) + ["t"] * (place % 3))

    def test_sources_leave_candidates_out(self):
        self.assertEqual(step(PROGRAM, (3, (2, 4, 6)), ("b", 5))[0], (2, (2, 6)))
        self.assertEqual(step(PROGRAM, (3, (2, 4, 6)), ("b", 1))[0], (2, (1, 6)))
        self.assertEqual(step(PROGRAM, (3, (2, 4, 6)), ("b", 8))[0], (2, (2, 8)))
        self.assertEqual(step(PROGRAM, (4, (2, 4, 6, 8)), ("a", 9))[0], (4, (2, 4, 6, 8)))
        self.assertEqual(step(PROGRAM, (4, (2, 4, 6, 8)), ("a", 1))[0], (4, (1, 2, 4, 6)))
        self.assertEqual(step(PROGRAM, (2, (-4, -2)), ("b", -3))[0], (1, (-2,)))
        self.assertEqual(step(PROGRAM, (0, ()), ("b", 5))[0], (0, ()))

    def test_written_number_may_be_one_that_is_not_kept(self):
        self.assertEqual(step(PROGRAM, (4, (2, 4, 6, 8)), ("a", 9))[1], ((0, "s", 9), (1, "s", 2)))
        self.assertEqual(step(PROGRAM, (1, (5,)), ("b", 3)), ((1, (5,)), ((0, "t", 3),)))

    def test_no_signal(self):
        self.assertEqual(step(PROGRAM, (0, ()), ("b", 5))[1], ())

    def test_four_signals_in_the_order_of_the_rule(self):
        _, written = step(PROGRAM, (3, (2, 4, 6)), ("b", 5))
        self.assertEqual(written, ((0, "t", 6), (0, "s", 2), (1, "s", 4), (0, "t", 6)))

    def test_four_signals_to_one_output_and_to_several(self):
        one = ((0, "t", 1), (0, "s", 0), (0, "s", 1), (0, "t", 0))
        several = ((2, "u", 0), (0, "s", 1), (1, "s", 1), (2, "u", 1))
        rules = (
            (((1, (0,), ()),), ((1, (0,), ()),)),
            (((0, (), one), (0, (), ()), (0, (), ())), ((0, (), several), (0, (), ()), (0, (), ()))),
        )
        program = Program(NAMES, OUTPUTS, STATES[:2], rules)
        self.assertEqual(step(program, (1, (6,)), ("a", 3)),
                         ((0, ()), ((0, "t", 6), (0, "s", 3), (0, "s", 6), (0, "t", 3))))
        self.assertEqual(step(program, (1, (6,)), ("b", 3)),
                         ((0, ()), ((2, "u", 3), (0, "s", 6), (1, "s", 6), (2, "u", 6))))

    def test_lists_and_tuples(self):
        expected = ((2, (2, 6)), ((0, "t", 6), (0, "s", 2), (1, "s", 4), (0, "t", 6)))
        for configuration in ((3, (2, 4, 6)), [3, [2, 4, 6]], (3, [2, 4, 6]), [3, (2, 4, 6)]):
            for message in (("b", 5), ["b", 5]):
                with self.subTest(configuration=configuration, message=message):
                    self.assertEqual(step(PROGRAM, configuration, message), expected)

    def test_returns_tuples(self):
        for configuration in ((3, (2, 4, 6)), [3, [2, 4, 6]]):
            after, written = result = step(PROGRAM, configuration, ["b", 5])
            for value in (result, after, after[1], written, *written):
                self.assertIs(type(value), tuple)

    def test_arguments_stay_as_they_were(self):
        configuration, message = [3, [2, 4, 6]], ["b", 5]
        step(PROGRAM, configuration, message)
        self.assertEqual((configuration, message), ([3, [2, 4, 6]], ["b", 5]))
        self.assertEqual(PROGRAM, make_program())


class RunTest(unittest.TestCase):
    MESSAGES = [("a", 4), ("b", 2), ("a", 4), ("a", -3), ("a", 9), ("a", 0), ("b", 5), ("a", 9), ("b", 9)]

    def test_empty_sequence(self):
        self.assertEqual(run(PROGRAM, []), ((0, ()), [[], [], []]))
        self.assertEqual(run(PROGRAM, ()), ((0, ()), [[], [], []]))

    def test_record(self):
        configuration, record = run(PROGRAM, [("a", 4), ("a", 2), ("a", 6), ("b", 5)])
        self.assertEqual(configuration, (2, (2, 6)))
        self.assertEqual(record, [
            [("s", 4), ("s", 4), ("s", 6), ("t", 6), ("s", 2), ("t", 6)],
            [("s", 4), ("s", 2), ("s", 2), ("s", 4)],
            [],
        ])

    def test_a_list_for_each_output(self):
        for messages in ([], [("b", 1)], self.MESSAGES):
            _, record = run(PROGRAM, messages)
            self.assertEqual(len(record), 3)
            self.assertEqual(record[2], [])
            for written in [record, *record]:
                self.assertIs(type(written), list)

    def test_kinds(self):
        result = run(PROGRAM, [list(message) for message in self.MESSAGES])
        configuration, record = result
        self.assertEqual(result, run(PROGRAM, self.MESSAGES))
        for value in (result, configuration, configuration[1], *record[0], *record[1]):
            self.assertIs(type(value), tuple)

    def test_one_message_after_another(self):
        configuration, expected = start(PROGRAM), [[], [], []]
        for many, message in enumerate(self.MESSAGES):
            self.assertEqual(run(PROGRAM, self.MESSAGES[:many]), (configuration, expected))
            configuration, written = step(PROGRAM, configuration, message)
            for output, signal, number in written:
                expected[output].append((signal, number))
        self.assertEqual(run(PROGRAM, self.MESSAGES), (configuration, expected))

    def test_record_of_a_beginning_is_a_beginning_of_the_record(self):
        _, whole = run(PROGRAM, self.MESSAGES)
        for many in range(len(self.MESSAGES)):
            _, record = run(PROGRAM, self.MESSAGES[:many])
            for part, full in zip(record, whole):
                self.assertEqual(part, full[:len(part)])

    def test_only_the_order_of_numbers_counts(self):
        # An ascending table keeps the order, also across 0 and at the ends of what a message can have.
        numbers = sorted({number for _, number in self.MESSAGES})
        for others in ((-1000000, -5, -1, 3, 999999, 1000000), (0, 1, 2, 3, 4, 5)):
            table = dict(zip(numbers, others))
            self.assertEqual(len(table), len(numbers))
            (state, kept), record = run(PROGRAM, self.MESSAGES)
            replaced = run(PROGRAM, [(name, table[number]) for name, number in self.MESSAGES])
            self.assertEqual(replaced[0], (state, tuple(table[number] for number in kept)))
            self.assertEqual(replaced[1], [[(signal, table[number]) for signal, number in written]
                                           for written in record])

    def test_arguments_stay_as_they_were(self):
        messages = [list(message) for message in self.MESSAGES]
        run(PROGRAM, messages)
        self.assertEqual(messages, [list(message) for message in self.MESSAGES])
        self.assertEqual(PROGRAM, make_program())

    def test_later_calls_change_nothing_that_was_returned(self):
        first = run(PROGRAM, self.MESSAGES)
        before = copy.deepcopy(first)
        second = run(PROGRAM, self.MESSAGES)
        second[1][0].append(("s", 0))
        second[1].append([])
        run(PROGRAM, self.MESSAGES[:3])
        self.assertEqual(first, before)
        self.assertEqual(run(PROGRAM, self.MESSAGES), before)


if __name__ == "__main__":
    unittest.main()
