"""Point 9: which error a program text raises, and with what."""

import unittest

from orderneed.errors import Doubled, Malformed, Misplaced, Missing, Repeated, TooMany, Unfit, Unknown
from orderneed.texts import parse_program

HEAD = ["hears a b", "output o s t", "output p u", "state e 0", "state m 1", "state n 4"]
STATES = {"e": 0, "m": 1, "n": 4}


def places(kept):
    return range(2 * kept + 1)


def all_rules():
    return [f"rule {state} {name} {place} e" for state in "emn" for name in "ab" for place in places(STATES[state])]


def many_states(many):
    return ["state e 0"] + [f"state s{k} 1" for k in range(1, many)]


class ErrorTest(unittest.TestCase):
    def raised(self, error, lines):
        with self.assertRaises(error) as caught:
            parse_program("\n".join(lines))
        self.assertIs(type(caught.exception), error)
        return caught.exception

    def check(self, error, lines, line, word=None):
        """The text raises just this error, with this line and perhaps this word."""
        with self.subTest(lines[line - 1] if line <= len(lines) else "no state"):
            caught = self.raised(error, lines)
            self.assertEqual(caught.line, line)
            if word is not None:
                self.assertEqual(caught.word, word)

    def check_rule(self, error, rule, word=None):
        """A rule, behind the states and before the other rules, raises just this error."""
        self.check(error, HEAD + [rule] + all_rules(), len(HEAD) + 1, word)

    def test_no_error(self):
        self.assertEqual(len(parse_program("\n".join(HEAD + all_rules())).states), 3)


class RepeatedTest(ErrorTest):
    def test_output(self):
        self.check(Repeated, ["hears a", "output o s", "output o s"], 3, "o")
        self.check(Repeated, ["hears a", "output o s", "output p s", "output o t"], 4, "o")
        self.check(Repeated, ["hears a", "output o s", "output p s", "output p t"], 4, "p")

    def test_state(self):
        self.check(Repeated, HEAD + ["state e 0"], 7, "e")
        self.check(Repeated, HEAD + ["state m 3"], 7, "m")

    def test_other_kinds_do_not_count(self):
        text = "hears o p\noutput o p\noutput p o\nstate o 0\nstate p 0"
        rules = [f"rule {state} {name} 0 o" for state in "op" for name in "op"]
        self.assertEqual(len(parse_program("\n".join([text] + rules)).outputs), 2)


class UnknownTest(ErrorTest):
    def test_each_part(self):
        self.check_rule(Unknown, "rule x a 0 e", "x")
        self.check_rule(Unknown, "rule e x 0 e", "x")
        self.check_rule(Unknown, "rule e a 0 x", "x")
        self.check_rule(Unknown, "rule e a 0 e write x s 0", "x")
        self.check_rule(Unknown, "rule e a 0 e write o x 0", "x")
        self.check_rule(Unknown, "rule e a 0 e write o s 0 write x s 0", "x")
        self.check_rule(Unknown, "rule e a 0 e write o s 0 write o x 0", "x")
        self.check_rule(Unknown, "rule e a 0 e write o s 0 write o s 0 write o t 0 write p x 0", "x")

    def test_names_of_another_kind(self):
        self.check_rule(Unknown, "rule a a 0 e", "a")
        self.check_rule(Unknown, "rule e e 0 e", "e")
        self.check_rule(Unknown, "rule e a 0 b", "b")
        self.check_rule(Unknown, "rule e a 0 e write s s 0", "s")
        self.check_rule(Unknown, "rule e a 0 e write o o 0", "o")

    def test_signal_belongs_to_the_output_before_it(self):
        self.check_rule(Unknown, "rule e a 0 e write o u 0", "u")
        self.check_rule(Unknown, "rule e a 0 e write p s 0", "s")
        self.check_rule(Unknown, "rule e a 0 e write p u 0 write p t 0", "t")

    def test_first_from_left_to_right(self):
        parts = ["rule", "v", "w", "0", "x", "write", "y", "z", "0", "write", "vv", "ww", "0"]
        right = ["rule", "e", "a", "0", "e", "write", "o", "s", "0", "write", "p", "u", "0"]
        for at in (1, 2, 4, 6, 7, 10, 11):
            self.check_rule(Unknown, " ".join(right[:at] + parts[at:]), parts[at])

    def test_a_later_state_is_not_yet_known_but_out_of_order(self):
        self.check(Unknown, HEAD + ["rule e a 0 later", "state later 0"], 7, "later")


class UnfitTest(ErrorTest):
    def test_first_state(self):
        for kept in (1, 2, 3, 4):
            self.check(Unfit, ["hears a", "output o s", f"state e {kept}", "state f 0"], 3)

    def test_later_states_may_keep_numbers(self):
        self.assertEqual(parse_program("\n".join(HEAD + all_rules())).states, (("e", 0), ("m", 1), ("n", 4)))

    def test_position(self):
        for place in range(1, 9):
            self.check_rule(Unfit, f"rule e a {place} e")
        for place in range(3, 9):
            self.check_rule(Unfit, f"rule m a {place} e")

    def test_greatest_positions_are_fit(self):
        for rule in ("rule e a 0 e", "rule m a 2 e", "rule n b 8 e"):
            others = [other for other in all_rules() if other != rule]
            parse_program("\n".join(HEAD + [rule] + others))

    def test_number_of_sources(self):
        for rule in ("rule e a 0 e 0", "rule e a 0 m", "rule m a 0 m", "rule m a 0 m 0 1", "rule m a 1 e 0",
                     "rule n a 0 n", "rule n a 0 n 0 1 2", "rule n a 0 m 0 1 2 3", "rule n a 0 e 0 1 2 3"):
            self.check_rule(Unfit, rule)

    def test_sources_ascend_strictly(self):
        for sources in ("0 1 3 2", "1 0 2 3", "0 0 1 2", "0 1 2 2", "4 3 2 1", "0 1 1 3", "3 3 3 3"):
            self.check_rule(Unfit, f"rule n a 0 n {sources}")

    def test_sources_are_candidates(self):
        self.check_rule(Unfit, "rule e a 0 m 1")
        self.check_rule(Unfit, "rule e a 0 m 4")
        self.check_rule(Unfit, "rule m a 0 m 2")
        self.check_rule(Unfit, "rule m a 2 m 2")
        self.check_rule(Unfit, "rule m a 1 m 1")
        for place in (1, 3, 5, 7):
            self.check_rule(Unfit, f"rule n a {place} n 0 1 2 4")

    def test_sources_of_signals_are_candidates(self):
        self.check_rule(Unfit, "rule e a 0 e write o s 1")
        self.check_rule(Unfit, "rule e a 0 m 0 write o s 0 write o s 1")
        self.check_rule(Unfit, "rule m a 0 e write o s 2")
        self.check_rule(Unfit, "rule m a 1 e write o s 1")
        self.check_rule(Unfit, "rule m a 1 e write o s 0 write o s 0 write o s 0 write o s 1")
        for place in (1, 3, 5, 7):
            self.check_rule(Unfit, f"rule n a {place} e write o s 4")

    def test_greatest_sources_are_fit(self):
        rules = ["rule e a 0 m 0 write o s 0", "rule m a 0 m 1 write o s 1", "rule m a 1 m 0 write o s 0",
                 "rule m a 2 m 1 write o s 1"]
        rules += [f"rule n a {place} n 1 2 3 4 write o s 4" for place in (0, 2, 4, 6, 8)]
        rules += [f"rule n a {place} n 0 1 2 3 write o s 3" for place in (1, 3, 5, 7)]
        heads = [rule.split(" ")[:4] for rule in rules]
        others = [rule for rule in all_rules() if rule.split(" ")[:4] not in heads]
        program = parse_program("\n".join(HEAD + rules + others))
        self.assertEqual(program.rules[2][0][8], (2, (1, 2, 3, 4), ((0, "s", 4),)))

    def test_signals_may_come_in_any_order_of_sources(self):
        rules = ["rule n a 0 n 0 1 2 3 write o s 4 write o s 0 write o s 4 write o s 2"]
        program = parse_program("\n".join(HEAD + rules + [rule for rule in all_rules() if rule != "rule n a 0 e"]))
        self.assertEqual([source for _, _, source in program.rules[2][0][0][2]], [4, 0, 4, 2])


class DoubledTest(ErrorTest):
    def test_same_rule_again(self):
        rules = all_rules()
        for at in (0, 1, 5, len(rules) - 1):
            lines = HEAD + rules + [rules[at]]
            self.check(Doubled, lines, len(lines))

    def test_another_rule_for_the_same_place(self):
        self.check(Doubled, HEAD + ["rule m a 2 e", "rule e a 0 e", "rule m a 2 m 1 write o s 0"], 9)

    def test_one_part_may_be_the_same(self):
        lines = HEAD + ["rule m a 2 e", "rule m a 1 e", "rule m b 2 e", "rule n a 2 e"]
        self.assertEqual(self.raised(Missing, lines).state, "e")


class TooManyTest(ErrorTest):
    def test_fourth_output(self):
        lines = ["hears a", "output o s", "output p s", "output q s", "output r s"]
        self.check(TooMany, lines, 5)
        self.check(TooMany, lines + ["state e 0", "rule e a 0 e"], 5)

    def test_three_outputs(self):
        text = "hears a\noutput o s\noutput p s\noutput q s\nstate e 0\nrule e a 0 e"
        self.assertEqual(len(parse_program(text).outputs), 3)

    def test_twenty_first_state(self):
        lines = ["hears a", "output o s"] + many_states(21)
        self.check(TooMany, lines, 23)
        self.check(TooMany, lines + ["state more 0", "nothing"], 23)

    def test_twenty_states(self):
        lines = ["hears a", "output o s"] + many_states(20)
        error = self.raised(Missing, lines)
        self.assertEqual((error.state, error.name, error.position), ("e", "a", 0))


class SeveralErrorsTest(ErrorTest):
    """Of two errors that one line has at once, the first one in the list of point 9 is raised."""

    def test_malformed_and_misplaced(self):
        self.check(Malformed, ["output o"], 1)
        self.check(Malformed, ["state e 5"], 1)
        self.check(Malformed, ["rule e a 9 e"], 1)
        self.check(Malformed, HEAD + ["hears a a"], 7)
        self.check(Malformed, HEAD + ["output q s s"], 7)
        self.check(Malformed, ["hears a", "state e x"], 2)
        self.check(Malformed, HEAD + ["rule e a 0 e", "state z 01"], 8)
        self.check(Malformed, ["hears a", "output o s", "rule e a 0"], 3)

    def test_malformed_and_repeated(self):
        self.check(Malformed, ["hears a", "output o s", "output o t t"], 3)
        self.check(Malformed, HEAD + ["state m 5"], 7)

    def test_malformed_and_unknown(self):
        for rule in ("rule x a 9 e", "rule e x 0 e 5", "rule e a 0 x 0 write o s", "rule e a 0 e write x s 5",
                     "rule e a 0 e write o x 0 0"):
            self.check_rule(Malformed, rule)

    def test_malformed_and_unfit(self):
        self.check(Malformed, ["hears a", "output o s", "state E 1"], 3)
        for rule in ("rule e a 9 e", "rule n a 0 n 4 3 2 5", "rule e a 0 m 5", "rule n a 0 e 0 1 2 3 4",
                     "rule e a 0 e write o s 5", "rule e a 1 e write o"):
            self.check_rule(Malformed, rule)

    def test_malformed_and_doubled(self):
        self.check(Malformed, HEAD + ["rule e a 0 e", "rule e a 0 e write o s"], 8)
        self.check(Malformed, HEAD + ["rule e a 0 e", "rule e a 0 e "], 8)

    def test_malformed_and_too_many(self):
        self.check(Malformed, ["hears a", "output o s", "output p s", "output q s", "output r s s"], 5)
        self.check(Malformed, ["hears a", "output o s"] + many_states(20) + ["state more 5"], 23)

    def test_misplaced_and_repeated(self):
        self.check(Misplaced, HEAD + ["output o s"], 7)
        self.check(Misplaced, HEAD + ["rule e a 0 e", "output p u"], 8)
        self.check(Misplaced, HEAD + ["rule e a 0 e", "state m 1"], 8)

    def test_misplaced_and_unknown(self):
        self.check(Misplaced, ["rule e a 0 e"], 1)
        self.check(Misplaced, ["hears a", "rule e x 0 e"], 2)
        self.check(Misplaced, ["hears a", "output o s", "rule e a 0 e write o x 0"], 3)

    def test_misplaced_and_unfit(self):
        self.check(Misplaced, ["state e 1"], 1)
        self.check(Misplaced, ["hears a", "state e 4"], 2)
        self.check(Misplaced, ["hears a", "output o s", "rule e a 0 e 3 2 1"], 3)

    def test_misplaced_and_too_many(self):
        three = ["hears a", "output o s", "output p s", "output q s"]
        self.check(Misplaced, three + ["state e 0", "output r s"], 6)
        twenty = ["hears a", "output o s"] + many_states(20)
        self.check(Misplaced, twenty + ["rule e a 0 e", "state more 0"], 24)

    def test_repeated_and_too_many(self):
        three = ["hears a", "output o s", "output p s", "output q s"]
        for word in "opq":
            self.check(Repeated, three + [f"output {word} t"], 5, word)
        twenty = ["hears a", "output o s"] + many_states(20)
        for word in ("e", "s1", "s19"):
            self.check(Repeated, twenty + [f"state {word} 0"], 23, word)

    def test_unknown_and_unfit(self):
        for rule in ("rule x a 8 e", "rule e x 8 e", "rule e a 1 x", "rule e a 0 x 3 2 1", "rule e a 0 e 0 write x s 0",
                     "rule e a 0 e 0 write o x 0", "rule n a 0 n 3 2 1 0 write o s 0 write o x 0",
                     "rule m a 1 e write o x 1", "rule m a 1 e write o s 4 write x s 0", "rule e a 8 m write o x 4"):
            self.check_rule(Unknown, rule, "x")

    def test_unknown_and_doubled(self):
        for tail in ("x", "e write x s 0", "e write o x 0"):
            self.check(Unknown, HEAD + ["rule m a 0 e", f"rule m a 0 {tail}"], 8, "x")

    def test_unfit_and_doubled(self):
        for tail in ("e 0", "m", "m 2", "n 0 0 0 0", "e write o s 2"):
            self.check(Unfit, HEAD + ["rule m a 0 e", f"rule m a 0 {tail}"], 8)


class FirstLineTest(ErrorTest):
    """The first line with an error decides, whatever stands behind it."""

    def test_later_lines_do_not_matter(self):
        behind = ["", "hears a", "output o s s", "state e 4", "state e 4", "rule x x 0 x", "rule e a 1 e"]
        errors = [(Malformed, "state 9 0"), (Misplaced, "output r s"), (Repeated, "state m 1")]
        for error, content in errors:
            for later in behind:
                self.check(error, HEAD + [content, later], 7)
        for error, content in ((Unknown, "rule x a 0 e"), (Unfit, "rule e a 1 e"), (Doubled, "rule m a 0 e")):
            for later in behind:
                self.check(error, HEAD + ["rule m a 0 e", content, later], 8)
        for later in behind:
            self.check(TooMany, HEAD[:3] + ["output q s", "output r s", later], 5)

    def test_an_error_late_in_the_list_on_an_early_line(self):
        self.check(TooMany, ["hears a", "output o s", "output p s", "output q s", "output r s", "output o"], 5)
        self.check(Doubled, HEAD + ["rule e a 0 e", "rule e a 0 e", "rule x a 0 e", "no form"], 8)
        self.check(Unfit, ["hears a", "output o s", "state e 1", "state e 1", "hears a", ""], 3)

    def test_lines_decide_before_what_is_missing(self):
        self.check(Malformed, ["hears a", "output o s", ""], 3)
        self.check(Malformed, HEAD + ["rule e a 0 e", ""], 8)
        self.check(Doubled, HEAD + ["rule e a 0 e", "rule e a 0 e"], 8)


class EndTest(ErrorTest):
    """What is raised if no line has an error."""

    def check_missing(self, lines, state, name, place):
        with self.subTest((state, name, place)):
            error = self.raised(Missing, lines)
            self.assertEqual((error.state, error.name, error.position), (state, name, place))
            self.assertIs(type(error.position), int)

    def test_no_state(self):
        self.check(Misplaced, ["hears a b"], 2)
        self.check(Misplaced, ["hears a b", "output o s"], 3)
        self.check(Misplaced, ["hears a b", "output o s", "output p s", "output q s"], 5)

    def test_no_rule(self):
        self.check_missing(HEAD, "e", "a", 0)

    def test_each_rule(self):
        for rule in all_rules():
            _, state, name, place, _ = rule.split(" ")
            lines = HEAD + [other for other in all_rules() if other != rule]
            self.check_missing(lines, state, name, int(place))

    def test_first_of_those_that_are_missing(self):
        rules = all_rules()
        for at, rule in enumerate(rules):
            _, state, name, place, _ = rule.split(" ")
            self.check_missing(HEAD + rules[:at], state, name, int(place))
            self.check_missing(HEAD + rules[:at][::-1], state, name, int(place))
            self.check_missing(HEAD + (rules[:at] + rules[at + 2:])[::-1], state, name, int(place))

    def test_order_is_that_of_the_lines(self):
        lines = ["hears b a", "output o s", "state z 0", "state y 1", "state x 0"]
        self.check_missing(lines, "z", "b", 0)
        self.check_missing(lines + ["rule z b 0 z", "rule x a 0 z", "rule y a 0 z"], "z", "a", 0)
        self.check_missing(lines + ["rule z b 0 z", "rule z a 0 z", "rule y b 0 z", "rule y a 0 z"], "y", "b", 1)
        rules = [f"rule y {name} {place} z" for name in "ba" for place in (0, 1, 2)]
        self.check_missing(lines + ["rule z b 0 z", "rule z a 0 z"] + rules, "x", "b", 0)
        self.check_missing(lines + ["rule z b 0 z", "rule z a 0 z"] + rules[:5], "y", "a", 2)


if __name__ == "__main__":
    unittest.main()
