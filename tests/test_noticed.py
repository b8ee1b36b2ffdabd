"""Point 23: the names to which programs are deaf."""

import copy
import itertools
import unittest

from examples import (APART, AT_THE_BOUND, DEAF_SHAPES_AT_THE_BOUND, ECHO, FIRST, GREATEST, IN_TURN, SILENT, case_of,
                      echoing, lock, narrowing, threshold)
from orderneed.cases import Case, same_records
from orderneed.errors import TooLarge
from orderneed.needs import deaf_names, noticed
from orderneed.programs import run
from orderneed.texts import parse_program
from reference import DIFFERENCE, TOO_LARGE, search_from, some_program, some_views, start_of_name

NAMES = ("a", "b")
# For AT_THE_BOUND, the search is too large for one of the names only.
LARGE_NAME, SMALL_NAME = "b", "a"


class NoticedAssertions(unittest.TestCase):
    def assert_noticed(self, case, name, found):
        """Check the index, and the two sequences, that are returned for a name."""
        self.assertIs(type(found), tuple)
        index, whole, less = found
        program, views = case.programs[index], case.views[index]
        self.assertIs(type(whole), list)
        self.assertIs(type(less), list)
        self.assertTrue(any(message[0] == name and whole[:at] + whole[at + 1:] == less
                            for at, message in enumerate(whole)), found)
        self.assertFalse(same_records(views, run(program, whole)[1], run(program, less)[1]), found)
        for message in whole + less:
            self.assertIs(type(message), tuple)
            self.assertIn(message[0], program.names)
            self.assertIs(type(message[1]), int)
            self.assertTrue(0 <= message[1] <= len(whole), found)

    def assert_deaf_names(self, case, names):
        self.assertEqual(deaf_names(case), names)
        for name in case.programs[0].names:
            found = noticed(case, name)
            if name in names:
                self.assertIsNone(found)
            else:
                self.assert_noticed(case, name, found)


class NoticedTest(NoticedAssertions):
    def test_nothing_is_written(self):
        self.assert_deaf_names(case_of(SILENT), ["a", "b"])

    def test_everything_is_written(self):
        self.assert_deaf_names(case_of(ECHO), [])
        self.assert_deaf_names(case_of(ECHO, view="unordered"), [])
        self.assert_deaf_names(case_of(ECHO, view="ignored"), ["a", "b"])

    def test_each_output_by_its_view(self):
        self.assert_deaf_names(Case([APART], [["ordered", "ignored"]]), ["b"])
        self.assert_deaf_names(Case([APART], [["ignored", "unordered"]]), ["a"])

    def test_only_one_name_is_written(self):
        self.assert_deaf_names(case_of(IN_TURN), ["b"])

    def test_a_name_that_matters_though_it_is_not_written(self):
        # A first "b" keeps a later "a" from being written. This is seen only by searching on.
        self.assert_deaf_names(case_of(FIRST), [])
        index, whole, less = noticed(case_of(FIRST), "b")
        self.assertEqual((index, len(whole), len(less)), (0, 2, 1))
        for program in (threshold(True, True, False, False), threshold(False, False, True, False)):
            self.assert_deaf_names(case_of(program), [])
        self.assert_deaf_names(case_of(threshold(True, False, False, False)), ["a", "b"])

    def test_greatest(self):
        self.assert_deaf_names(case_of(GREATEST), [])
        self.assert_deaf_names(case_of(GREATEST, view="ignored"), ["a"])

    def test_what_is_written_at_some_numbers_only(self):
        # Only a "b" that is equal to the first "a" is written.
        program = parse_program("hears b a\noutput o s\nstate e 0\nstate m 1\nrule e a 0 m 0\nrule e b 0 e\n"
                                "rule m a 0 m 1\nrule m a 1 m 0\nrule m a 2 m 0\n"
                                "rule m b 0 m 1\nrule m b 1 m 0 write o s 0\nrule m b 2 m 0")
        self.assert_deaf_names(case_of(program), [])

    def test_first_program_that_is_not_deaf(self):
        case = case_of(SILENT, IN_TURN, ECHO)
        self.assert_deaf_names(case, [])
        self.assertEqual(noticed(case, "a")[0], 1)
        self.assertEqual(noticed(case, "b")[0], 2)
        self.assert_deaf_names(case_of(IN_TURN, SILENT), ["b"])

    def test_differences_that_are_far_away(self):
        for key in ("aabab", "abbbbaab", "babbaaba"):
            case = case_of(lock(key))
            self.assert_deaf_names(case, [])
            self.assertEqual(len(noticed(case, "c")[1]), len(key) + 1)
        for many in (3, 8, 17):
            self.assert_deaf_names(case_of(narrowing(many)), [])
            self.assertGreaterEqual(len(noticed(case_of(narrowing(many)), "a")[1]), many)

    def test_names_in_their_order(self):
        text = "hears {}\noutput o s\nstate e 0\nrule e x 0 e\nrule e b 0 e\nrule e y 0 e write o s 0\nrule e a 0 e"
        for names in itertools.permutations(["x", "b", "y", "a"]):
            program = parse_program(text.format(" ".join(names)))
            self.assert_deaf_names(case_of(program), [name for name in names if name != "y"])

    def test_unreached_states_do_not_count(self):
        program = parse_program("hears a\noutput o s\nstate e 0\nstate l 0\nrule e a 0 e\nrule l a 0 l write o s 0")
        self.assert_deaf_names(case_of(program), ["a"])

    def test_removing_any_message_by_all_short_sequences(self):
        for seed in range(40):
            program = some_program(seed, 2, 3, 1, 1, 1, 12)
            for view in ("ordered", "unordered"):
                case = case_of(program, view=view)
                deaf = deaf_names(case)
                for sent in itertools.product([("a", 0), ("a", 1), ("b", 0), ("b", 1)], repeat=4):
                    record = run(program, sent)[1]
                    for at, (name, _) in enumerate(sent):
                        if name in deaf:
                            without = run(program, sent[:at] + sent[at + 1:])[1]
                            self.assertTrue(same_records([view], record, without))


class TooLargeTest(NoticedAssertions):
    def test_the_names_at_the_bound(self):
        self.assertEqual(DEAF_SHAPES_AT_THE_BOUND, {LARGE_NAME: 1001, SMALL_NAME: 1000})
        self.assertRaises(TooLarge, noticed, case_of(AT_THE_BOUND), LARGE_NAME)
        self.assertIsNone(noticed(case_of(AT_THE_BOUND), SMALL_NAME))
        self.assertRaises(TooLarge, deaf_names, case_of(AT_THE_BOUND))

    def test_a_program_behind_the_first_that_is_not_deaf_does_not_matter(self):
        self.assert_noticed(case_of(ECHO, AT_THE_BOUND), LARGE_NAME, noticed(case_of(ECHO, AT_THE_BOUND), LARGE_NAME))
        self.assertEqual(noticed(case_of(SILENT, ECHO, AT_THE_BOUND), LARGE_NAME)[0], 1)

    def test_a_program_ahead_of_the_first_that_is_not_deaf_matters(self):
        self.assertRaises(TooLarge, noticed, case_of(AT_THE_BOUND, ECHO), LARGE_NAME)
        self.assertRaises(TooLarge, noticed, case_of(SILENT, AT_THE_BOUND), LARGE_NAME)
        self.assertEqual(noticed(case_of(AT_THE_BOUND, ECHO), SMALL_NAME)[0], 1)

    def test_deaf_names_also_behind_a_program_that_is_not_deaf(self):
        for programs in ([ECHO, AT_THE_BOUND], [AT_THE_BOUND, ECHO], [SILENT, ECHO, AT_THE_BOUND]):
            self.assertRaises(TooLarge, deaf_names, case_of(*programs))

    def test_there_is_no_search_where_the_start_has_a_difference(self):
        loud = echoing(AT_THE_BOUND)
        pairs, differs = start_of_name(loud, ["ordered"], LARGE_NAME)
        self.assertTrue(differs)
        self.assertEqual(search_from(loud, ["ordered"], (pairs, False)), TOO_LARGE)
        self.assert_deaf_names(case_of(loud), [])


class ReferenceTest(NoticedAssertions):
    """Dice programs, against the search that is written word by word."""

    def test_dice_programs(self):
        lengths = set()
        for seed in range(150):
            outputs = 1 + seed % 2
            program = some_program(seed, 1 + seed % 3, 1 + seed % 5, 2, outputs, 2, 8)
            views = some_views(seed, outputs)
            case = Case([program], [views])
            heard = [name for name in program.names
                     if search_from(program, views, start_of_name(program, views, name)) == DIFFERENCE]
            self.assert_deaf_names(case, [name for name in program.names if name not in heard])
            lengths.update(len(noticed(case, name)[1]) for name in heard)
        self.assertGreaterEqual(len(lengths), 3)


class UnchangedTest(unittest.TestCase):
    def test_the_same_question_has_the_same_answer(self):
        case = case_of(SILENT, FIRST)
        before = copy.deepcopy((case.programs, case.views))
        for name in NAMES:
            first = noticed(case, name)
            expected = copy.deepcopy(first)
            first[1].append("spoilt")
            first[2].clear()
            again = noticed(case, name)
            self.assertEqual(again, expected)
            noticed(case, "a")
            self.assertEqual(again, expected)
        deaf = deaf_names(case_of(SILENT))
        self.assertIs(type(deaf), list)
        deaf.clear()
        self.assertEqual(deaf_names(case_of(SILENT)), ["a", "b"])
        self.assertEqual((case.programs, case.views), before)

    def test_defined_here(self):
        for thing in (noticed, deaf_names):
            self.assertEqual(thing.__module__, "orderneed.needs")


if __name__ == "__main__":
    unittest.main()
