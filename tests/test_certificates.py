"""Points 25 to 27: certificates of items, and their check."""

import copy
import itertools
import unittest

from examples import (APART, AT_THE_BOUND, ECHO, FIRST, GREATEST, IN_TURN, SHAPES_AT_THE_BOUND, SILENT,
                      TOO_LARGE_ITEMS, case_of, threshold)
from orderneed.cases import Case
from orderneed.certificates import accepts, certificate
from orderneed.errors import TooLarge
from orderneed.needs import harm
from orderneed.programs import Program
from orderneed.promises import all_items
from orderneed.texts import parse_program
from reference import DIFFERENCE, copies_of, search_from, some_program, some_views, start_of

A_A = ("order", "a", "a", "less")
ONCE_A = ("once", "a")
GREATEST_ONCE = ("safe", [((1, (0,)), 0), ((1, (1,)), 0)], [((1, (0,)), (1, (0,)))])
HARM = ("harm", [("a", 0), ("a", 1)], [("a", 1), ("a", 0)])
ECHO_AGAIN = ("harm", [("a", 0)], [("a", 0), ("a", 0)])


def as_lists(value):
    """Return a value with each tuple in it as a list."""
    return [as_lists(part) for part in value] if isinstance(value, (tuple, list)) else value


def as_tuples(value):
    """Return a value with each list in it as a tuple."""
    return tuple(as_tuples(part) for part in value) if isinstance(value, (tuple, list)) else value


def nested(depth):
    """Return a list in a list, and so on."""
    value = []
    for _ in range(depth):
        value = [value]
    return value


def places_in(value, way=()):
    """Return the ways to all parts of a value, itself among them."""
    found = [way]
    if isinstance(value, (tuple, list)):
        for at, part in enumerate(value):
            found.extend(places_in(part, way + (at,)))
    return found


def replaced(value, way, part):
    """Return a value with another part in a place."""
    if not way:
        return part
    parts = list(value)
    parts[way[0]] = replaced(parts[way[0]], way[1:], part)
    return tuple(parts) if isinstance(value, tuple) else parts


class CertificateTest(unittest.TestCase):
    def test_example_of_the_document(self):
        self.assertEqual(certificate(case_of(GREATEST), 0, ONCE_A), GREATEST_ONCE)

    def test_kinds(self):
        kind, copies, pairs = found = certificate(case_of(GREATEST), 0, ONCE_A)
        self.assertEqual([type(value) for value in (found, kind, copies, pairs)], [tuple, str, list, list])
        for value in [*copies, *pairs]:
            self.assertEqual(as_tuples(value), value)
            self.assertIs(type(value), tuple)
            hash(value)
        kind, sent, came = found = certificate(case_of(GREATEST), 0, A_A)
        self.assertEqual([type(value) for value in (found, kind, sent, came)], [tuple, str, list, list])
        self.assertEqual({type(message) for message in sent + came}, {tuple})

    def test_order_has_no_copies(self):
        self.assertEqual(certificate(case_of(SILENT), 0, A_A), ("safe", [], [((0, ()), (0, ()))]))
        self.assertEqual(certificate(case_of(SILENT), 0, ("once", "b")),
                         ("safe", [((0, ()), 0)], [((0, ()), (0, ()))]))

    def test_harm_is_that_of_the_program_alone(self):
        greater = threshold(True, True, False, False)
        programs = [SILENT, greater, ECHO]
        case = case_of(*programs)
        for item in all_items(("a", "b")):
            for index, program in enumerate(programs):
                found = certificate(case, index, item)
                alone = harm(case_of(program), item)
                if alone is None:
                    self.assertEqual(found[0], "safe")
                else:
                    self.assertEqual(found, ("harm", alone[1], alone[2]))
                self.assertEqual(found, certificate(case_of(program), 0, item))
                self.assertTrue(accepts(case, index, item, found))

    def test_views_belong_to_their_program(self):
        case = Case([ECHO, ECHO, ECHO], [["ignored"], ["unordered"], ["ordered"]])
        self.assertEqual([certificate(case, index, A_A)[0] for index in range(3)], ["safe", "safe", "harm"])
        self.assertEqual([certificate(case, index, ONCE_A)[0] for index in range(3)], ["safe", "harm", "harm"])

    def test_too_large(self):
        case = case_of(ECHO, AT_THE_BOUND)
        for item, many in SHAPES_AT_THE_BOUND.items():
            self.assertEqual(certificate(case, 0, item)[0], "harm")
            if many > 1000:
                self.assertRaises(TooLarge, certificate, case, 1, item)
            else:
                self.assertEqual(len(certificate(case, 1, item)[2]), many)
                self.assertTrue(accepts(case, 1, item, certificate(case, 1, item)))

    def test_items_as_lists(self):
        for item in (A_A, ONCE_A):
            found = certificate(case_of(GREATEST), 0, list(item))
            self.assertEqual(found, certificate(case_of(GREATEST), 0, item))
            self.assertTrue(accepts(case_of(GREATEST), 0, list(item), found))

    def test_dice_programs(self):
        ends = set()
        for seed in range(150):
            outputs = 1 + seed % 3
            program = some_program(seed, 1 + seed % 3, 1 + seed % 4, 2, outputs, 2, 10)
            views = some_views(seed, outputs)
            case = Case([program], [views])
            for item in all_items(program.names):
                found = certificate(case, 0, item)
                expected = search_from(program, views, start_of(program, views, item))
                if expected == DIFFERENCE:
                    self.assertEqual((0, *found[1:]), harm(case, item))
                    self.assertEqual(found[0], "harm")
                else:
                    copies = copies_of(program, item[1]) if item[0] == "once" else []
                    self.assertEqual(found, ("safe", copies, expected))
                self.assertIs(accepts(case, 0, item, found), True)
                self.assertIs(accepts(case, 0, item, as_lists(found)), True)
                self.assertIs(accepts(case, 0, item, as_tuples(found)), True)
                ends.add(found[0])
        self.assertEqual(ends, {"safe", "harm"})

    def test_the_same_question_has_the_same_answer(self):
        case = case_of(GREATEST)
        for item in (A_A, ONCE_A):
            first = certificate(case, 0, item)
            expected = copy.deepcopy(first)
            first[1].clear()
            first[2].append("spoilt")
            again = certificate(case, 0, item)
            self.assertEqual(again, expected)
            certificate(case, 0, A_A)
            accepts(case, 0, item, again)
            self.assertEqual(again, expected)

    def test_defined_here(self):
        for thing in (certificate, accepts):
            self.assertEqual(thing.__module__, "orderneed.certificates")


class AcceptsAssertions(unittest.TestCase):
    def assert_accepted(self, case, item, value, index=0):
        self.assertIs(accepts(case, index, item, value), True, value)

    def assert_refused(self, case, item, value, index=0):
        self.assertIs(accepts(case, index, item, value), False, value)


class HarmTest(AcceptsAssertions):
    def test_harm(self):
        case = case_of(GREATEST)
        self.assert_accepted(case, A_A, HARM)
        self.assert_accepted(case, A_A, as_lists(HARM))
        self.assert_accepted(case, A_A, as_tuples(HARM))
        self.assert_accepted(case, A_A, ("harm", [("a", -7), ("a", 3), ("a", 5)], [("a", 3), ("a", -7), ("a", 5)]))
        self.assert_accepted(case_of(ECHO), ONCE_A, ECHO_AGAIN)

    def test_records_that_look_the_same(self):
        self.assert_refused(case_of(GREATEST, view="ignored"), A_A, HARM)
        # The greatest number comes first, so the two behind it do not matter.
        self.assert_refused(case_of(GREATEST), A_A,
                            ("harm", [("a", 9), ("a", 0), ("a", 1)], [("a", 9), ("a", 1), ("a", 0)]))
        self.assert_refused(case_of(GREATEST), ONCE_A, ECHO_AGAIN)
        self.assert_refused(case_of(ECHO, view="unordered"), A_A, HARM)

    def test_sequences_that_do_not_break_the_item(self):
        case = case_of(ECHO)
        one, two = ("a", 0), ("b", 0)
        self.assert_accepted(case, ("order", "a", "b", "equal"), ("harm", [one, two], [two, one]))
        self.assert_accepted(case, ("order", "a", "b", "equal"), ("harm", [two, one], [one, two]))
        self.assert_refused(case, ("order", "a", "b", "less"), ("harm", [one, two], [two, one]))
        self.assert_refused(case, A_A, ("harm", [one, two], [two, one]))
        self.assert_refused(case, ONCE_A, ("harm", [one, two], [two, one]))
        self.assert_refused(case, ONCE_A, ("harm", [one, two], [one, two, two]))
        self.assert_accepted(case, ("once", "b"), ("harm", [one, two], [one, two, two]))
        self.assert_refused(case, ("once", "b"), ("harm", [one, two], [two, one, two]))
        self.assert_refused(case, ONCE_A, ("harm", [one], [one]))
        self.assert_refused(case, ONCE_A, ("harm", [one, one], [one]))
        self.assert_refused(case, ONCE_A, ("harm", [], []))

    def test_the_program_with_the_index(self):
        case = case_of(SILENT, ECHO)
        self.assert_refused(case, ONCE_A, ECHO_AGAIN, 0)
        self.assert_accepted(case, ONCE_A, ECHO_AGAIN, 1)
        case = Case([APART, APART], [["ignored", "ordered"], ["ordered", "ignored"]])
        self.assert_refused(case, ONCE_A, ECHO_AGAIN, 0)
        self.assert_accepted(case, ONCE_A, ECHO_AGAIN, 1)

    def test_numbers_at_both_bounds(self):
        case = case_of(GREATEST)
        for low, high in ((-1000000, 1000000), (-1000000, -999999), (999999, 1000000)):
            self.assert_accepted(case, A_A, ("harm", [("a", low), ("a", high)], [("a", high), ("a", low)]))
        for low, high in ((-1000001, 1000000), (-1000000, 1000001), (0, 10 ** 30)):
            self.assert_refused(case, A_A, ("harm", [("a", low), ("a", high)], [("a", high), ("a", low)]))

    def test_members_that_are_no_messages(self):
        case = case_of(ECHO)
        item = ("once", "b")
        first, last = ("b", 0), ("b", 0)
        self.assert_accepted(case, item, ("harm", [first, ("a", 1)], [first, ("a", 1), last]))
        for other in ("c", "", "A", "ab", ("a",), None, 1, True):
            self.assert_refused(case, item, ("harm", [first, (other, 1)], [first, (other, 1), last]))
        for other in (True, False, "1", None, (1,), [], "", 1000001, -1000001):
            self.assert_refused(case, item, ("harm", [first, ("a", other)], [first, ("a", other), last]))
        for other in (("a",), ("a", 1, 1), (), [], "a1", "a", 1, None, True, ("a", 1, 0, 0), (1, "a")):
            self.assert_refused(case, item, ("harm", [first, other], [first, other, last]))

    def test_true_and_false_are_no_numbers(self):
        case = case_of(GREATEST)
        self.assert_refused(case, A_A, ("harm", [("a", False), ("a", 1)], [("a", 1), ("a", False)]))
        self.assert_refused(case, A_A, ("harm", [("a", 0), ("a", True)], [("a", True), ("a", 0)]))
        # A message that is right in one of the sequences only.
        self.assert_refused(case, A_A, ("harm", [("a", 0), ("a", True)], [("a", 1), ("a", 0)]))
        self.assert_refused(case, A_A, ("harm", [("a", 0), ("a", 1)], [("a", 1), ("a", False)]))

    def test_a_long_sequence(self):
        many = [("a", 0)] * 20000
        self.assert_accepted(case_of(ECHO), ONCE_A, ("harm", many, many + [("a", 0)]))


class SafeTest(AcceptsAssertions):
    def test_safe(self):
        case = case_of(GREATEST)
        self.assert_accepted(case, ONCE_A, GREATEST_ONCE)
        self.assert_accepted(case, ONCE_A, as_lists(GREATEST_ONCE))
        self.assert_accepted(case, ONCE_A, as_tuples(GREATEST_ONCE))
        self.assert_refused(case, A_A, GREATEST_ONCE)

    def test_order_of_members_and_members_twice(self):
        kind, copies, pairs = GREATEST_ONCE
        case = case_of(GREATEST)
        self.assert_accepted(case, ONCE_A, (kind, copies[::-1], pairs))
        self.assert_accepted(case, ONCE_A, (kind, copies + copies[:1], pairs * 3))
        self.assert_accepted(case, ONCE_A, (kind, copies * 3000, as_lists(pairs) * 10000))

    def test_more_than_is_needed(self):
        # Another pair may stand in the list, if all to which it goes on do so, too.
        kind, copies, pairs = GREATEST_ONCE
        case = case_of(GREATEST)
        self.assert_accepted(case, ONCE_A, (kind, copies, pairs + [((0, ()), (0, ()))]))
        # The configurations of this pair differ at a new number between theirs.
        self.assert_refused(case, ONCE_A, (kind, copies, pairs + [((1, (0,)), (1, (1,)))]))
        # A copy in the first state writes nothing at its message, but its pair goes on to a difference.
        self.assert_refused(case, ONCE_A, (kind, copies + [((0, ()), 0)], pairs + [((0, ()), (1, (0,)))]))
        self.assert_refused(case, ONCE_A, (kind, copies + [((0, ()), 0)], pairs))

    def test_every_member_is_needed(self):
        for program, view in ((GREATEST, "ordered"), (FIRST, "ordered"), (IN_TURN, "unordered"),
                              (threshold(True, True, False, False), "ordered"), (ECHO, "ignored")):
            case = case_of(program, view=view)
            for item in all_items(program.names):
                kind, copies, pairs = certificate(case, 0, item)
                if kind == "harm":
                    continue
                for at in range(len(copies)):
                    self.assert_refused(case, item, (kind, copies[:at] + copies[at + 1:], pairs))
                for at in range(len(pairs)):
                    self.assert_refused(case, item, (kind, copies, pairs[:at] + pairs[at + 1:]))
                if item[0] == "order":
                    self.assert_refused(case, item, (kind, [((0, ()), 0)], pairs))
                self.assert_refused(case, item, (kind, pairs, copies) if copies else (kind, pairs, pairs))

    def test_every_member_is_needed_by_dice_programs(self):
        for seed in range(60):
            program = some_program(seed, 2, 4, 2, 1, 1, 8)
            case = case_of(program)
            for item in all_items(program.names):
                kind, copies, pairs = certificate(case, 0, item)
                if kind == "safe":
                    for at in range(min(len(copies), 12)):
                        self.assert_refused(case, item, (kind, copies[:at] + copies[at + 1:], pairs))
                    for at in range(min(len(pairs), 12)):
                        self.assert_refused(case, item, (kind, copies, pairs[:at] + pairs[at + 1:]))

    def test_a_start_with_a_difference(self):
        # All pairs of these programs are closed, and only what is written at the start differs.
        pairs = [((0, ()), (0, ()))]
        self.assert_refused(case_of(ECHO), A_A, ("safe", [], pairs))
        self.assert_accepted(case_of(ECHO, view="unordered"), A_A, ("safe", [], pairs))
        self.assert_refused(case_of(ECHO, view="unordered"), ONCE_A, ("safe", [((0, ()), 0)], pairs))
        self.assert_accepted(case_of(ECHO, view="ignored"), ONCE_A, ("safe", [((0, ()), 0)], pairs))

    def test_a_pair_that_differs_later(self):
        # The start has no difference: "b" moves to a state in which "a" is not written.
        case = case_of(FIRST)
        self.assertEqual(certificate(case, 0, ("once", "b"))[0], "safe")
        everything = [((first, ()), (second, ())) for first, second in itertools.product(range(2), repeat=2)]
        alike = [((first, ()), (first, ())) for first in range(2)]
        copies = [((1, ()), 0)]
        self.assert_accepted(case, ("once", "b"), ("safe", copies, alike))
        self.assert_refused(case, ("once", "b"), ("safe", copies, everything))

    def test_states_that_are_not_reached(self):
        program = parse_program("hears a\noutput o s\nstate e 0\nstate l 0\nstate n 0\nrule e a 0 e\n"
                                "rule l a 0 l write o s 0\nrule n a 0 n")
        case = case_of(program)
        found = certificate(case, 0, A_A)
        self.assertEqual(found, ("safe", [], [((0, ()), (0, ()))]))
        # Pairs of other states may stand in the list, if they are closed and look the same.
        self.assert_accepted(case, A_A, ("safe", [], found[2] + [((1, ()), (1, ())), ((0, ()), (2, ()))]))
        self.assert_refused(case, A_A, ("safe", [], found[2] + [((0, ()), (1, ()))]))
        self.assert_accepted(case, ONCE_A, ("safe", [((0, ()), 0), ((2, ()), 0)],
                                            [((0, ()), (0, ())), ((2, ()), (2, ()))]))
        self.assert_refused(case, ONCE_A, ("safe", [((0, ()), 0), ((1, ()), 0)],
                                           [((0, ()), (0, ())), ((1, ()), (1, ()))]))

    def test_more_than_a_thousand_shapes(self):
        # The check has no bound, though the search has one.
        item = TOO_LARGE_ITEMS[0]
        pairs = search_from(AT_THE_BOUND, ["ordered"], start_of(AT_THE_BOUND, ["ordered"], item), 5000)
        self.assertGreater(len(pairs), 1000)
        self.assert_accepted(case_of(AT_THE_BOUND), item, ("safe", [], pairs))
        self.assert_refused(case_of(AT_THE_BOUND), item, ("safe", [], pairs[:-1]))

    def test_the_program_with_the_index(self):
        case = Case([ECHO, SILENT], [["ordered"], ["ordered"]])
        safe = ("safe", [((0, ()), 0)], [((0, ()), (0, ()))])
        self.assert_refused(case, ONCE_A, safe, 0)
        self.assert_accepted(case, ONCE_A, safe, 1)


class NoShapeTest(AcceptsAssertions):
    """Copies and pairs that are not their own shapes."""

    def assert_bad_pair(self, pair):
        """Check that a pair spoils a certificate of GREATEST that is accepted without it."""
        kind, copies, pairs = GREATEST_ONCE
        self.assert_refused(case_of(GREATEST, view="ignored"), ONCE_A, (kind, copies, pairs + [pair]))
        self.assert_refused(case_of(GREATEST, view="ignored"), ONCE_A, (kind, copies, [pair] + pairs))

    def assert_bad_copy(self, value):
        kind, copies, pairs = GREATEST_ONCE
        self.assert_refused(case_of(GREATEST, view="ignored"), ONCE_A, (kind, copies + [value], pairs))
        self.assert_refused(case_of(GREATEST, view="ignored"), ONCE_A, (kind, [value] + copies, pairs))

    def test_without_it_they_are_accepted(self):
        self.assert_accepted(case_of(GREATEST, view="ignored"), ONCE_A, GREATEST_ONCE)

    def test_pairs_whose_numbers_are_no_ranks(self):
        for first, second in ((1, 1), (0, 2), (-1, 0), (1, 2), (2, 0), (-1, -1)):
            self.assert_bad_pair(((1, (first,)), (1, (second,))))
        self.assert_bad_pair(((1, (1,)), (0, ())))

    def test_states_that_do_not_exist(self):
        for state in (-1, 2, 20, 10 ** 30, -2):
            self.assert_bad_pair(((state, (0,)), (1, (0,))))
            self.assert_bad_pair(((1, (0,)), (state, (0,))))
            self.assert_bad_pair(((state, ()), (state, ())))
            self.assert_bad_copy(((state, (0,)), 0))
            self.assert_bad_copy(((state, ()), 0))

    def test_as_many_numbers_as_the_state_keeps(self):
        for pair in (((1, ()), (1, ())), ((0, (0,)), (0, (0,))), ((1, (0, 1)), (1, (0, 1))), ((1, (0,)), (1, ())),
                     ((0, ()), (0, (0,)))):
            self.assert_bad_pair(pair)
        for value in (((1, ()), 0), ((0, (0,)), 0), ((1, (0, 1)), 0)):
            self.assert_bad_copy(value)

    def test_ascending_numbers(self):
        rules = ((((1, (0,), ()),),), (((1, (0,), ()), (1, (0,), ()), (2, (0, 1), ())),),
                 (tuple((2, (0, 1), ()) for _ in range(5)),))
        program = Program(("a",), (("o", ("s",)),), (("e", 0), ("m", 1), ("t", 2)), rules)
        case = case_of(program)
        kind, copies, pairs = certificate(case, 0, ONCE_A)
        self.assert_accepted(case, ONCE_A, (kind, copies, pairs))
        for kept in ((1, 0), (0, 0), (1, 1)):
            self.assert_refused(case, ONCE_A, (kind, copies, pairs + [((2, kept), (2, kept))]))
            self.assert_refused(case, ONCE_A, (kind, copies, pairs + [((2, (0, 1)), (2, kept))]))
            self.assert_refused(case, ONCE_A, (kind, copies + [((2, kept), 0)], pairs))
        self.assert_accepted(case, ONCE_A, (kind, copies, pairs + [((2, (0, 1)), (2, (0, 1)))]))

    def test_copies_whose_numbers_are_no_ranks(self):
        for kept, number in ((1, 1), (0, 2), (2, 0), (-1, 0), (0, -1), (5, 5)):
            self.assert_bad_copy(((1, (kept,)), number))
        self.assert_bad_copy(((0, ()), 1))
        self.assert_bad_copy(((0, ()), -1))

    def test_true_and_false_are_no_integers(self):
        for pair in (((True, (0,)), (1, (0,))), ((1, (0,)), (True, (0,))), ((1, (False,)), (1, (0,))),
                     ((1, (0,)), (1, (False,))), ((False, ()), (0, ())), ((0, ()), (False, ()))):
            self.assert_bad_pair(pair)
        for value in (((True, (0,)), 0), ((1, (False,)), 0), ((1, (0,)), False), ((1, (True,)), 0), ((1, (0,)), True)):
            self.assert_bad_copy(value)

    def test_other_forms(self):
        others = [None, True, False, 0, 1, "", "a", "ab", (), [], (1,), (1, 2), ((1, (0,)),), "safe", ((), ()),
                  ((1, (0,)), (1, (0,)), (1, (0,))), ((1,), (1,)), ((1, (0,), 0), (1, (0,), 0)), ((1, 0), (1, 0)),
                  ((1, "0"), (1, "0")), (("1", (0,)), ("1", (0,))), ((1, ("0",)), (1, ("0",))),
                  ((1, (None,)), (1, (None,))), ((None, (0,)), (None, (0,))), ((1, ((0,),)), (1, ((0,),))),
                  ((1, ([],)), (1, ([],))), (([], (0,)), ([], (0,))), ((1, None), (1, None)), ("ab", "ab"),
                  ((1, (0,)), None), (None, (1, (0,))), ((1, (0,)), "a"), ((1, (0,)), ())]
        for other in others:
            self.assert_bad_pair(other)
            self.assert_bad_copy(other)
        # A pair is no copy, and a copy is no pair.
        self.assert_bad_copy(((1, (0,)), (1, (0,))))
        self.assert_bad_pair(((1, (0,)), 0))


class OtherFormsTest(AcceptsAssertions):
    """Values that are no certificates at all. None of them raises an error."""

    def test_other_values(self):
        values = [None, True, False, 0, 1, -1, "", "safe", "harm", (), [], ("safe",), ("harm",), ("safe", [], []),
                  ("harm", [], []), ("safe", []), ("safe", [], [], []), ("harm", *HARM[1:], ()), HARM[1:],
                  ("HARM", *HARM[1:]), ("harm ", *HARM[1:]), ("", *HARM[1:]), (None, *HARM[1:]), (True, *HARM[1:]),
                  ("safe", *HARM[1:]), (["harm"], *HARM[1:]), (("harm",), *HARM[1:]), ("harm", HARM[1], None),
                  ("harm", None, HARM[2]), ("harm", "", ""), ("safe", "", ""), ("safe", None, None),
                  ("safe", 0, 0), ("safe", [], ""), ("safe", "", []), ("harm", 1, 1), "har", ["s", "a", "f"],
                  ("harm", *GREATEST_ONCE[1:]), ("Safe", *GREATEST_ONCE[1:]), (HARM,), [GREATEST_ONCE], (0, [], []),
                  ("safe", [], None), ("safe", True, False), ((), (), ()), ([], [], []), (1, 2, 3)]
        for value in values:
            for case in (case_of(GREATEST), case_of(GREATEST, view="ignored")):
                for item in (A_A, ONCE_A):
                    self.assert_refused(case, item, value)
                    self.assert_refused(case, item, as_lists(value))
                    self.assert_refused(case, item, as_tuples(value))

    def test_deep_values(self):
        deep = nested(100000)
        for value in (deep, ("safe", deep, []), ("safe", [], deep), ("harm", deep, deep), (deep, [], []),
                      ("harm", [("a", deep)], [("a", deep), ("a", deep)]), ("harm", [(deep, 0)], [(deep, 0)] * 2),
                      ("safe", [deep], []), ("safe", [((1, deep), 0)], []), ("safe", [((1, (deep,)), 0)], []),
                      ("safe", [], [((1, (deep,)), (1, (deep,)))]), ("safe", [((deep, (0,)), 0)], [])):
            self.assert_refused(case_of(GREATEST), A_A, value)
            self.assert_refused(case_of(GREATEST), ONCE_A, value)

    def test_a_part_of_another_kind_anywhere(self):
        # Each part of three certificates is replaced by each of these.
        safe = certificate(case_of(FIRST), 0, ("once", "b"))
        parts = [None, True, False, "", "a", "b", "harm", -1, 2, 3, 1000001, (), [], (0,), [0, 0], ((), ()), ("a", 7)]
        for case, item, value in ((case_of(GREATEST), A_A, HARM), (case_of(GREATEST), ONCE_A, GREATEST_ONCE),
                                  (case_of(FIRST), ("once", "b"), safe)):
            self.assert_accepted(case, item, value)
            for way in places_in(value):
                for part in parts:
                    changed = replaced(value, way, part)
                    # True and False are equal to integers, but none.
                    same = as_tuples(changed) == as_tuples(value) and not isinstance(part, bool)
                    self.assertIs(accepts(case, 0, item, changed), same, changed)

    def test_harm_is_accepted_only_if_the_item_is_needed(self):
        for program, view in itertools.product((SILENT, ECHO, FIRST, IN_TURN), ("ordered", "unordered", "ignored")):
            case = case_of(program, view=view)
            messages = list(itertools.product("ab", range(2)))
            short = [list(sequence) for many in range(4) for sequence in itertools.product(messages, repeat=many)]
            for item in all_items(program.names):
                accepted = any(accepts(case, 0, item, ("harm", sent, came)) for sent in short[:21] for came in short)
                self.assertEqual(accepted, harm(case, item) is not None)

    def test_safe_is_accepted_only_if_the_item_is_not_needed(self):
        pairs = [((first, ()), (second, ())) for first, second in itertools.product(range(2), repeat=2)]
        copies = [((state, ()), 0) for state in range(2)]
        for program, view in itertools.product((SILENT, ECHO, FIRST, IN_TURN), ("ordered", "unordered", "ignored")):
            case = case_of(program, view=view)
            for item in all_items(program.names):
                accepted = False
                for some in itertools.product((False, True), repeat=len(pairs) + len(copies)):
                    chosen = [member for member, taken in zip(pairs + copies, some) if taken]
                    value = ("safe", [one for one in chosen if one in copies], [one for one in chosen if one in pairs])
                    accepted = accepted or accepts(case, 0, item, value)
                self.assertEqual(accepted, harm(case, item) is None)

    def test_arguments_stay_as_they_were(self):
        case = case_of(GREATEST)
        for item, value in ((list(A_A), as_lists(HARM)), (list(ONCE_A), as_lists(GREATEST_ONCE))):
            before = copy.deepcopy((item, value))
            self.assert_accepted(case, item, value)
            certificate(case, 0, item)
            self.assertEqual((item, value), before)


if __name__ == "__main__":
    unittest.main()
