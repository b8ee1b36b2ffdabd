"""Points 11 and 12: views, what looks the same, and cases."""

import copy
import unittest

from orderneed.cases import Case, looks_same, same_records
from orderneed.errors import InvalidCase, OrderError
from orderneed.programs import Program, run
from orderneed.texts import parse_program

VIEWS = ("ordered", "unordered", "ignored")


def make_program(names="a b", outputs=1):
    """Return a program that hears these names, has so many outputs, and writes each number to each of them."""
    lines = [f"hears {names}"] + [f"output {name} s t" for name in "opq"[:outputs]] + ["state e 0"]
    writes = "".join(f" write {name} s 0" for name in "opq"[:outputs])
    return parse_program("\n".join(lines + [f"rule e {name} 0 e{writes}" for name in names.split(" ")]))


class LooksSameTest(unittest.TestCase):
    def check(self, first, second, expected):
        """Check both orders of two lists for the three views."""
        for view, same in zip(VIEWS, expected):
            for one, other in ((first, second), (second, first)):
                with self.subTest(view=view, one=one, other=other):
                    self.assertIs(looks_same(view, one, other), same)

    def test_equal_lists(self):
        for written in ([], [("s", 0)], [("s", 0), ("t", 0), ("s", 0)], [("t", -1000000), ("s", 1000000)]):
            self.check(written, list(written), (True, True, True))

    def test_other_order(self):
        self.check([("s", 1), ("t", 2)], [("t", 2), ("s", 1)], (False, True, True))
        self.check([("s", 1), ("s", 2)], [("s", 2), ("s", 1)], (False, True, True))
        self.check([("s", 1), ("s", 2), ("s", 1)], [("s", 1), ("s", 1), ("s", 2)], (False, True, True))

    def test_other_signal(self):
        self.check([("s", 1)], [("t", 1)], (False, False, True))

    def test_other_number(self):
        self.check([("s", 1)], [("s", 2)], (False, False, True))
        self.check([("s", 1)], [("s", -1)], (False, False, True))

    def test_signals_and_numbers_belong_together(self):
        self.check([("s", 1), ("t", 2)], [("s", 2), ("t", 1)], (False, False, True))

    def test_one_more(self):
        self.check([], [("s", 1)], (False, False, True))
        self.check([("s", 1)], [("s", 1), ("t", 1)], (False, False, True))

    def test_each_tuple_equally_often(self):
        # The same tuples, and equally many of them, do not suffice.
        self.check([("s", 1)], [("s", 1), ("s", 1)], (False, False, True))
        self.check([("s", 1), ("s", 1), ("t", 1)], [("s", 1), ("t", 1), ("t", 1)], (False, False, True))

    def test_lists_and_tuples(self):
        first, second = [("s", 1), ("s", 2)], [("s", 2), ("s", 1)]
        forms = (lambda rows: [list(row) for row in rows], lambda rows: tuple(tuple(row) for row in rows),
                 lambda rows: (rows[0], list(rows[1])))
        for form in forms:
            self.check(first, form(first), (True, True, True))
            self.check(first, form(second), (False, True, True))

    def test_arguments_stay_as_they_were(self):
        for view in VIEWS:
            first, second = [["t", 2], ["s", 1]], [["s", 1], ["t", 2]]
            looks_same(view, first, second)
            self.assertEqual((first, second), ([["t", 2], ["s", 1]], [["s", 1], ["t", 2]]))


class SameRecordsTest(unittest.TestCase):
    FIRST = [[("s", 1), ("s", 2)], [("s", 1), ("s", 2)], [("s", 1)]]
    SECOND = [[("s", 1), ("s", 2)], [("s", 2), ("s", 1)], []]

    def test_each_output_by_its_view(self):
        for one in VIEWS:
            for two in VIEWS:
                for three in VIEWS:
                    with self.subTest((one, two, three)):
                        expected = two != "ordered" and three == "ignored"
                        self.assertIs(same_records((one, two, three), self.FIRST, self.SECOND), expected)
                        self.assertIs(same_records([one, two, three], self.SECOND, self.FIRST), expected)

    def test_each_output_counts(self):
        # One output that differs is enough, wherever it stands.
        for at in range(3):
            other = [list(written) for written in self.FIRST]
            other[at] = [("t", 7)]
            self.assertIs(same_records(["ordered"] * 3, self.FIRST, other), False)
            self.assertIs(same_records(["unordered"] * 3, self.FIRST, other), False)
            views = ["ordered"] * 3
            views[at] = "ignored"
            self.assertIs(same_records(views, self.FIRST, other), True)

    def test_outputs_are_not_taken_together(self):
        first, second = [[("s", 1)], [("s", 2)]], [[("s", 2)], [("s", 1)]]
        self.assertIs(same_records(("unordered", "unordered"), first, second), False)

    def test_one_output(self):
        for view, expected in zip(VIEWS, (False, True, True)):
            self.assertIs(same_records([view], [[("s", 1), ("s", 2)]], [[("s", 2), ("s", 1)]]), expected)

    def test_records_of_runs(self):
        program = make_program(outputs=2)
        _, first = run(program, [("a", 1), ("b", 2)])
        _, second = run(program, [("b", 2), ("a", 1)])
        self.assertIs(same_records(["unordered", "ignored"], first, second), True)
        self.assertIs(same_records(["unordered", "unordered"], first, second), True)
        self.assertIs(same_records(["unordered", "ordered"], first, second), False)
        self.assertIs(same_records(["ordered", "ordered"], first, first), True)

    def test_lists_and_tuples(self):
        first = tuple(tuple(list(entry) for entry in written) for written in self.FIRST)
        self.assertIs(same_records(["ordered"] * 3, first, self.FIRST), True)
        self.assertIs(same_records(("ordered", "unordered", "ignored"), first, self.SECOND), True)
        self.assertIs(same_records(("ordered", "ordered", "ignored"), first, self.SECOND), False)

    def test_arguments_stay_as_they_were(self):
        arguments = [["unordered", "unordered", "ignored"], copy.deepcopy(self.SECOND), copy.deepcopy(self.FIRST)]
        before = copy.deepcopy(arguments)
        same_records(*arguments)
        self.assertEqual(arguments, before)


class CaseTest(unittest.TestCase):
    def test_one_to_three_programs(self):
        programs = [make_program(outputs=outputs) for outputs in (1, 2, 3)]
        views = [["ordered"], ["unordered", "ignored"], ["ignored", "ordered", "unordered"]]
        for many in (1, 2, 3):
            case = Case(programs[:many], views[:many])
            self.assertEqual(case.programs, tuple(programs[:many]))
            self.assertEqual(case.views, tuple(tuple(row) for row in views[:many]))

    def test_each_view(self):
        for view in VIEWS:
            self.assertEqual(Case([make_program()], [[view]]).views, ((view,),))

    def test_the_same_program_twice(self):
        program = make_program()
        case = Case([program, program], [["ordered"], ["ignored"]])
        self.assertEqual(case.programs, (program, program))
        self.assertEqual(case.views, (("ordered",), ("ignored",)))

    def test_other_outputs_and_states_fit(self):
        other = parse_program("hears a b\noutput z q\nstate f 0\nstate g 0\n" + "\n".join(
            f"rule {state} {name} 0 g" for state in "fg" for name in "ab"))
        self.assertEqual(Case([make_program(), other], [["ordered"], ["ordered"]]).programs[1], other)

    def test_programs_are_not_checked(self):
        # What points 3 to 5 say of programs does not hold for this one.
        odd = Program((), (), (), ())
        self.assertEqual(Case([odd], [[]]).views, ((),))

    def test_attributes_are_tuples(self):
        program = make_program(outputs=2)
        for programs in ([program], (program,)):
            for views in ([["ordered", "ignored"]], (("ordered", "ignored"),), [("ordered", "ignored")],
                          (["ordered", "ignored"],)):
                with self.subTest(programs=programs, views=views):
                    case = Case(programs, views)
                    for value in (case.programs, case.views, case.views[0]):
                        self.assertIs(type(value), tuple)
                    self.assertEqual(case.programs, (program,))
                    self.assertEqual(case.views, (("ordered", "ignored"),))

    def test_later_changes_of_the_arguments_do_not_matter(self):
        programs, views = [make_program(), make_program()], [["ordered"], ["ignored"]]
        case = Case(programs, views)
        views[0][0] = "unordered"
        views[1].clear()
        views.pop()
        programs.clear()
        self.assertEqual(case.programs, (make_program(), make_program()))
        self.assertEqual(case.views, (("ordered",), ("ignored",)))

    def test_arguments_stay_as_they_were(self):
        programs, views = [make_program(), make_program()], [["ordered"], ["ignored"]]
        Case(programs, views)
        self.assertEqual(programs, [make_program(), make_program()])
        self.assertEqual(views, [["ordered"], ["ignored"]])

    def test_cases_do_not_matter_to_each_other(self):
        first = Case([make_program()], [["ordered"]])
        Case([make_program("c"), make_program("c")], [["ignored"], ["unordered"]])
        self.assertEqual(first.programs, (make_program(),))
        self.assertEqual(first.views, (("ordered",),))

    def test_by_keyword(self):
        self.assertEqual(Case(programs=[make_program()], views=[["ordered"]]).views, (("ordered",),))

    def test_the_interface_is_defined_here(self):
        for thing in (looks_same, same_records, Case):
            self.assertEqual(thing.__module__, "orderneed.cases")


class InvalidCaseTest(unittest.TestCase):
    def check_invalid(self, programs, views):
        with self.assertRaises(InvalidCase) as caught:
            Case(programs, views)
        self.assertIs(type(caught.exception), InvalidCase)
        self.assertIsInstance(caught.exception, OrderError)

    def test_no_program(self):
        self.check_invalid([], [])
        self.check_invalid((), ())
        self.check_invalid([], [["ordered"]])

    def test_four_programs(self):
        self.check_invalid([make_program()] * 4, [["ordered"]] * 4)

    def test_other_names(self):
        self.check_invalid([make_program("a b"), make_program("a c")], [["ordered"], ["ordered"]])
        self.check_invalid([make_program("a b")] * 2 + [make_program("a c")], [["ordered"]] * 3)

    def test_names_in_another_order(self):
        self.check_invalid([make_program("a b"), make_program("b a")], [["ordered"], ["ordered"]])

    def test_one_name_more(self):
        self.check_invalid([make_program("a b"), make_program("a b c")], [["ordered"], ["ordered"]])
        self.check_invalid([make_program("a b c"), make_program("a b")], [["ordered"], ["ordered"]])

    def test_views_for_fewer_programs(self):
        self.check_invalid([make_program()], [])
        self.check_invalid([make_program(), make_program()], [["ordered"]])

    def test_views_for_more_programs(self):
        self.check_invalid([make_program()], [["ordered"], ["ordered"]])
        self.check_invalid([make_program()], [["ordered"], []])

    def test_fewer_views_than_outputs(self):
        self.check_invalid([make_program()], [[]])
        self.check_invalid([make_program(outputs=3)], [["ordered", "ordered"]])
        self.check_invalid([make_program(), make_program(outputs=2)], [["ordered"], ["ordered"]])

    def test_more_views_than_outputs(self):
        self.check_invalid([make_program()], [["ordered", "ordered"]])
        self.check_invalid([make_program(), make_program()], [["ordered"], ["ordered", "ignored"]])

    def test_views_of_the_other_program(self):
        # Together there are as many views as outputs, but not for each program.
        self.check_invalid([make_program(outputs=1), make_program(outputs=2)], [["ordered"] * 2, ["ordered"]])

    def test_no_view(self):
        for view in ("", "order", "Ordered", "ordered ", "unorderedx", "ignore", None, True, 0, b"ordered",
                     ["ordered"], ("ordered",), {}):
            with self.subTest(view):
                self.check_invalid([make_program()], [[view]])
                self.check_invalid([make_program(outputs=2)], [["ordered", view]])

    def test_no_program_object(self):
        program = make_program()
        for other in (None, 0, "program", (), [program], (program.names, program.outputs), Program):
            with self.subTest(other):
                self.check_invalid([other], [["ordered"]])
                self.check_invalid([program, other], [["ordered"], ["ordered"]])

    def test_no_list_of_programs(self):
        for programs in (None, 1, "a", make_program(), {0: make_program()}):
            with self.subTest(programs):
                self.check_invalid(programs, [["ordered"]])

    def test_no_list_of_views(self):
        for views in (None, 1, "o", "ordered", {0: ["ordered"]}, True):
            with self.subTest(views):
                self.check_invalid([make_program()], views)

    def test_no_list_of_views_for_a_program(self):
        for row in (None, 1, "o", "ordered", {"ordered": 1}, False):
            with self.subTest(row):
                self.check_invalid([make_program()], [row])


if __name__ == "__main__":
    unittest.main()
