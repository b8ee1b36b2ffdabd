"""Points 7, 8 and 10: the forms and the order of the lines of a program text, and writing it."""

import random
import unittest

from orderneed import texts
from orderneed.errors import Malformed, Misplaced, Missing, TooMany
from orderneed.programs import Program
from orderneed.texts import format_program, parse_program

SMALL = """hears a b
output o s t
output p s
state e 0
state m 1
rule e a 0 m 0
rule e b 0 e
rule m a 0 m 1 write o s 0
rule m a 1 m 0
rule m a 2 m 1 write o t 1 write p s 0
rule m b 0 e write p s 1
rule m b 1 e
rule m b 2 m 0"""

SMALL_RULES = (
    (((1, (0,), ()),), ((0, (), ()),)),
    (
        ((1, (1,), ((0, "s", 0),)), (1, (0,), ()), (1, (1,), ((0, "t", 1), (1, "s", 0)))),
        ((0, (), ((1, "s", 1),)), (0, (), ()), (1, (0,), ())),
    ),
)

SMALL_PROGRAM = Program(("a", "b"), (("o", ("s", "t")), ("p", ("s",))), (("e", 0), ("m", 1)), SMALL_RULES)


def complete(head, rules=()):
    """The text with these lines and, for each rule that is missing, one that forgets all numbers."""
    lines = head.split("\n")
    names = lines[0].split()[1:]
    states = [line.split()[1:] for line in lines if line.startswith("state ")]
    told = {tuple(rule.split(" ")[1:4]) for rule in rules}
    others = [f"rule {state} {name} {place} {states[0][0]}"
              for state, kept in states for name in names for place in range(2 * int(kept) + 1)
              if (state, name, str(place)) not in told]
    return "\n".join([head, *rules, *others])


class TextTest(unittest.TestCase):
    def check_malformed(self, lines, line):
        with self.assertRaises(Malformed) as caught:
            parse_program("\n".join(lines))
        self.assertEqual(caught.exception.line, line)

    def check_line(self, at, content):
        """The small text, with this content instead of its line at this index, is malformed there."""
        lines = SMALL.split("\n")
        lines[at] = content
        with self.subTest(content):
            self.check_malformed(lines, at + 1)


class ParseTest(TextTest):
    def test_small_program(self):
        program = parse_program(SMALL)
        self.assertEqual(program.names, SMALL_PROGRAM.names)
        self.assertEqual(program.outputs, SMALL_PROGRAM.outputs)
        self.assertEqual(program.states, SMALL_PROGRAM.states)
        self.assertEqual(program.rules, SMALL_RULES)
        self.assertIs(type(program), Program)

    def test_all_members_are_tuples(self):
        def check(value):
            if not isinstance(value, (int, str)):
                self.assertIs(type(value), tuple)
                for member in value:
                    check(member)
        program = parse_program(SMALL)
        for value in (program.names, program.outputs, program.states, program.rules):
            check(value)

    def test_rules_in_any_order(self):
        lines = SMALL.split("\n")
        for seed in range(20):
            rules = lines[5:]
            random.Random(seed).shuffle(rules)
            self.assertEqual(parse_program("\n".join(lines[:5] + rules)), SMALL_PROGRAM)
        self.assertEqual(parse_program("\n".join(lines[:5] + lines[:4:-1])), SMALL_PROGRAM)

    def test_later_calls_change_nothing_that_was_returned(self):
        program = parse_program(SMALL)
        parse_program(complete("hears z\noutput z z\nstate z 0"))
        self.assertEqual(program, SMALL_PROGRAM)

    def test_the_interface_is_defined_here(self):
        self.assertEqual(parse_program.__module__, "orderneed.texts")
        self.assertEqual(format_program.__module__, "orderneed.texts")
        self.assertIs(texts.parse_program, parse_program)

    def test_most_of_everything(self):
        head = "\n".join([
            "hears a bb ccc abcdefgh",
            "output o zyxwvuts s t u", "output abcdefgh s", "output q q",
            "state e 0", "state z9876543 4",
            *[f"state s{k} {k % 5}" for k in range(18)],
        ])
        writes = " write o zyxwvuts 4 write abcdefgh s 0 write q q 2 write o u 4"
        rules = [f"rule z9876543 abcdefgh {place} z9876543 0 1 2 3" for place in range(1, 8)]
        rules += [f"rule z9876543 abcdefgh 0 z9876543 0 1 2 4{writes}", f"rule z9876543 abcdefgh 8 z9876543 1 2 3 4"]
        program = parse_program(complete(head, rules))
        self.assertEqual(program.names, ("a", "bb", "ccc", "abcdefgh"))
        self.assertEqual(program.outputs,
                         (("o", ("zyxwvuts", "s", "t", "u")), ("abcdefgh", ("s",)), ("q", ("q",))))
        self.assertEqual(len(program.states), 20)
        self.assertEqual(program.states[:3], (("e", 0), ("z9876543", 4), ("s0", 0)))
        self.assertEqual(program.states[6], ("s4", 4))
        by_position = program.rules[1][3]
        self.assertEqual(by_position[0],
                         (1, (0, 1, 2, 4), ((0, "zyxwvuts", 4), (1, "s", 0), (2, "q", 2), (0, "u", 4))))
        self.assertEqual(by_position[1:8], ((1, (0, 1, 2, 3), ()),) * 7)
        self.assertEqual(by_position[8], (1, (1, 2, 3, 4), ()))

    def test_least_of_everything(self):
        program = parse_program("hears a\noutput o s\nstate e 0\nrule e a 0 e")
        self.assertEqual(program, Program(("a",), (("o", ("s",)),), (("e", 0),), ((((0, (), ()),),),)))

    def test_words_of_the_forms_as_names(self):
        text = "\n".join([
            "hears hears write rule state",
            "output output output write state rule", "output write write", "output rule hears",
            "state write 0", "state rule 1", "state hears 0", "state output 0", "state state 0",
        ])
        rules = ["rule write write 0 rule 0 write write write 0 write output state 0",
                 "rule rule state 2 write write rule hears 1 write output write 0",
                 "rule state rule 0 state"]
        program = parse_program(complete(text, rules))
        self.assertEqual(program.names, ("hears", "write", "rule", "state"))
        self.assertEqual(program.outputs[0], ("output", ("output", "write", "state", "rule")))
        self.assertEqual([name for name, _ in program.states], ["write", "rule", "hears", "output", "state"])
        self.assertEqual(program.rules[0][1][0], (1, (0,), ((1, "write", 0), (0, "state", 0))))
        self.assertEqual(program.rules[1][3][2], (0, (), ((2, "hears", 1), (0, "write", 0))))
        self.assertEqual(program.rules[4][2][0], (4, (), ()))

    def test_signal_equal_to_the_name_of_its_output(self):
        text = "hears o\noutput o o\nstate o 0\nrule o o 0 o write o o 0"
        self.assertEqual(parse_program(text),
                         Program(("o",), (("o", ("o",)),), (("o", 0),), ((((0, (), ((0, "o", 0),)),),),)))

    def test_outputs_may_share_signals(self):
        program = parse_program(complete("hears a\noutput o s t\noutput p t s\nstate e 0"))
        self.assertEqual(program.outputs, (("o", ("s", "t")), ("p", ("t", "s"))))


class PartsTest(TextTest):
    """Near misses that every form has."""

    def test_empty_text_and_empty_lines(self):
        self.check_malformed([""], 1)
        lines = SMALL.split("\n")
        for at in range(len(lines) + 1):
            with self.subTest(at):
                self.check_malformed(lines[:at] + [""] + lines[at:], at + 1)

    def test_newline_at_the_end(self):
        self.check_malformed([SMALL, ""], 14)

    def test_empty_parts(self):
        for at, content in enumerate(SMALL.split("\n")):
            self.check_line(at, " " + content)
            self.check_line(at, content + " ")
            parts = content.split(" ")
            for many in range(1, len(parts)):
                self.check_line(at, " ".join(parts[:many]) + "  " + " ".join(parts[many:]))

    def test_only_spaces(self):
        self.check_line(0, " ")
        self.check_line(3, "   ")

    def test_other_white_space(self):
        for at, content in enumerate(SMALL.split("\n")):
            for space in "\t\r\x0b\x0c\x00\u00a0\u2028":
                self.check_line(at, content + space)
                self.check_line(at, content.replace(" ", space, 1))

    def test_lines_are_split_at_newlines_only(self):
        for sign in ("\r", "\r\n", "\x0b", "\x0c", "\x1c", "\x85", "\u2028"):
            with self.subTest(sign):
                self.check_malformed([sign.join(SMALL.split("\n"))], 1)

    def test_first_part(self):
        for at, content in enumerate(SMALL.split("\n")):
            kind, _, rest = content.partition(" ")
            for other in ("x", kind[:-1], kind + "s", kind.upper(), kind.title(), kind + ":", "write"):
                self.check_line(at, other + " " + rest)
            self.check_line(at, kind)
            self.check_line(at, rest)

    def check_parts(self, places, bad):
        """Each of these parts (line and part by index), replaced by something bad, makes its line malformed."""
        lines = SMALL.split("\n")
        for at, place in places:
            for other in bad:
                parts = lines[at].split(" ")
                parts[place] = other
                self.check_line(at, " ".join(parts))

    def test_bad_words_everywhere(self):
        places = [(0, 1), (0, 2), (1, 1), (1, 2), (1, 3), (2, 2), (5, 2), (7, 2), (7, 7), (7, 8), (9, 11), (9, 12)]
        self.check_parts(places, ["abcdefghi", "A", "aB", "a1", "1", "0", "a-b", "a_b", "a.", ""])
        self.check_parts(places, ["\u00e9", "\u0131", "\u0430", "\uff41"])

    def test_bad_states_everywhere(self):
        places = [(3, 1), (4, 1), (5, 1), (5, 4), (7, 1), (7, 4)]
        self.check_parts(places, ["1", "0a", "9", "a12345678", "abcdefghi", "A", "aB", "a_", "a-1", "a1A", ""])
        self.check_parts(places, ["\u00e9", "a\u0661", "a\u00b2", "a\uff11"])

    def test_bad_digits_everywhere(self):
        sources = [(5, 5), (7, 5), (7, 9), (9, 9), (9, 13)]
        places = [(5, 3), (7, 3)]
        bad = ["9", "00", "01", "10", "12", "34", "-1", "+1", "a", "x", "\u0661", "\u00b2", "0.", ""]
        self.check_parts(places + sources + [(3, 2), (4, 2)], bad)
        self.check_parts(sources + [(3, 2), (4, 2)], ["5", "6", "7", "8"])

    def test_each_character(self):
        """Which characters a word and a state can have, and a state at its beginning."""
        head = "hears a\noutput o s\n"
        for code in range(0x250):
            sign = chr(code)
            letter = "a" <= sign <= "z"
            for text, good in (
                (f"hears {sign}\noutput o s\nstate e 0", letter),
                (f"hears x{sign}\noutput o s\nstate e 0", letter),
                (f"hears a\noutput {sign} s\nstate e 0", letter),
                (f"hears a\noutput o {sign}\nstate e 0", letter),
                (head + f"state {sign} 0", letter),
                (head + f"state x{sign} 0", letter or "0" <= sign <= "9"),
            ):
                with self.subTest(code=code, text=text):
                    self.assertRaises(Missing if good else Malformed, parse_program, text)


class FormsTest(TextTest):
    """Near misses of each form."""

    def test_hears(self):
        for content in ("hears", "hears a b c d e", "hears a a", "hears a b c a", "hears b a a", "hears a,b",
                        "hears abcdefghi", "hears a 1"):
            self.check_line(0, content)

    def test_output(self):
        for content in ("output", "output o", "output o s t u v w", "output o s s", "output o s t u s",
                        "output o s t t", "output o 1", "output O s"):
            self.check_line(1, content)

    def test_five_signals(self):
        self.check_line(1, "output o s t u v w")
        text = complete("hears a\noutput o s t u v\nstate e 0")
        self.assertEqual(parse_program(text).outputs, (("o", ("s", "t", "u", "v")),))

    def test_state(self):
        for content in ("state", "state m", "state 1", "state m 1 1", "state m 5", "state m 01", "state m one",
                        "state m m", "state m 1 0"):
            self.check_line(4, content)

    def test_rule_head(self):
        for content in ("rule", "rule m", "rule m a", "rule m a 0", "rule m a m", "rule m a 9 m 0", "rule m a 00 m 0",
                        "rule m a a m 0", "rule m 0 m 0", "rule m a1 0 m 0", "rule 1 a 0 m 0", "rule m a 0 1 0"):
            self.check_line(5, content)

    def test_rule_sources(self):
        for content in ("rule m a 0 m 5", "rule m a 0 m 0 1 2 3 4", "rule m a 0 m 0 0 0 0 0", "rule m a 0 m 01",
                        "rule m a 0 m x", "rule m a 0 m 0 x", "rule m a 0 m 0 m", "rule m a 0 m -1"):
            self.check_line(5, content)

    def test_rule_writes(self):
        good = "write o s 0"
        for tail in ("write", "write o", "write o s", "write o s 0 0", "write o s t 0", "write o s 5", "write o s s",
                     "write o 0", "write o 0 s", "write 0 o s", "write o s 00", "write o1 s 0", "write o s1 0",
                     "write o s 0 write", "write o s 0 write o", "write o s 0 write o s", "write o s 0 write o s 0 0",
                     "writes o s 0", "Write o s 0", "o s 0", "write o s 0 o s 0", "write o s 0 read o s 0"):
            self.check_line(5, "rule e a 0 m 0 " + tail)
            self.check_line(5, "rule e a 0 e " + tail)
        self.check_line(5, "rule e a 0 m 0 " + " ".join([good] * 5))
        self.check_line(5, "rule e a 0 m 0 " + " ".join([good] * 9))

    def test_source_behind_a_write(self):
        self.check_line(5, "rule e a 0 m write o s 0 0")
        self.check_line(5, "rule e a 0 m 0 write o s 0 0 write o s 0")
        self.check_line(5, "rule e a 0 m 0 write o s 0 1")

    def test_four_writes(self):
        lines = SMALL.split("\n")
        lines[5] += " write o s 0 write o s 0 write p s 0 write o t 0"
        self.assertEqual(parse_program("\n".join(lines)).rules[0][0][0],
                         (1, (0,), ((0, "s", 0), (0, "s", 0), (1, "s", 0), (0, "t", 0))))


class OrderTest(unittest.TestCase):
    """Point 8: which line may stand where."""

    HEARS, OUTPUT, OTHER, STATE, LATER, RULE, LAST = (
        "hears a", "output o s", "output p s", "state e 0", "state f 0", "rule e a 0 e", "rule f a 0 e")

    def check(self, lines, line):
        with self.subTest(lines):
            with self.assertRaises(Misplaced) as caught:
                parse_program("\n".join(lines))
            self.assertEqual(caught.exception.line, line)

    def test_in_order(self):
        program = parse_program("\n".join(
            [self.HEARS, self.OUTPUT, self.OTHER, self.STATE, self.LATER, self.RULE, self.LAST]))
        self.assertEqual(len(program.outputs), 2)
        self.assertEqual(len(program.states), 2)

    def test_before_hears(self):
        for first in (self.OUTPUT, self.STATE, self.RULE):
            self.check([first], 1)
            self.check([first, self.HEARS, self.OUTPUT, self.STATE, self.RULE], 1)

    def test_second_hears(self):
        lines = [self.HEARS, self.OUTPUT, self.STATE, self.RULE]
        for many in range(1, 5):
            for second in (self.HEARS, "hears b"):
                self.check(lines[:many] + [second] + lines[many:], many + 1)

    def test_output_after_a_state_or_a_rule(self):
        self.check([self.HEARS, self.OUTPUT, self.STATE, self.OTHER, self.RULE], 4)
        self.check([self.HEARS, self.OUTPUT, self.STATE, self.RULE, self.OTHER], 5)

    def test_state_before_the_first_output(self):
        self.check([self.HEARS, self.STATE], 2)
        self.check([self.HEARS, self.STATE, self.OUTPUT, self.RULE], 2)

    def test_state_after_a_rule(self):
        self.check([self.HEARS, self.OUTPUT, self.STATE, self.RULE, self.LATER, self.LAST], 5)
        self.check([self.HEARS, self.OUTPUT, self.STATE, self.LATER, self.RULE, "state g 0"], 6)

    def test_rule_before_the_first_state(self):
        self.check([self.HEARS, self.RULE], 2)
        self.check([self.HEARS, self.OUTPUT, self.RULE, self.STATE], 3)

    def test_no_state(self):
        self.check([self.HEARS], 2)
        self.check([self.HEARS, self.OUTPUT], 3)
        self.check([self.HEARS, self.OUTPUT, self.OTHER, "output q s"], 5)


def long_program(length):
    """A program whose text has this many characters."""
    states = (("e", 0),) + tuple((letter, 4) for letter in "fghijklmnopqrstuvwx")
    slots = [(state, name, place) for state, (_, kept) in enumerate(states)
             for name in range(4) for place in range(2 * kept + 1)]

    def made(writes):
        table = {slot: (0, (), ()) for slot in slots}
        for at, write in enumerate(writes):
            slot = slots[at % len(slots)]
            table[slot] = (0, (), table[slot][2] + (write,))
        rules = tuple(tuple(tuple(table[state, name, place] for place in range(2 * kept + 1)) for name in range(4))
                      for state, (_, kept) in enumerate(states))
        return Program(("a", "b", "c", "d"), (("o", ("s", "ss")),), states, rules)

    # " write o s 0" has 12 characters, and the longer signal adds one.
    many, rest = divmod(length - len(format_program(made([]))), 12)
    return made([(0, "ss", 0)] * rest + [(0, "s", 0)] * (many - rest))


class LengthTest(unittest.TestCase):
    def check_too_long(self, text):
        with self.assertRaises(TooMany) as caught:
            parse_program(text)
        self.assertEqual(caught.exception.line, 0)

    def test_longest_text(self):
        program = long_program(40000)
        text = format_program(program)
        self.assertEqual(len(text), 40000)
        self.assertEqual(parse_program(text), program)

    def test_too_long_text(self):
        text = format_program(long_program(40001))
        self.assertEqual(len(text), 40001)
        self.check_too_long(text)

    def test_length_comes_before_the_lines(self):
        for sign in ("x", " ", "\n"):
            self.check_too_long(sign * 40001)
            with self.assertRaises(Malformed) as caught:
                parse_program(sign * 40000)
            self.assertEqual(caught.exception.line, 1)


class FormatTest(unittest.TestCase):
    def test_character_by_character(self):
        self.assertEqual(format_program(SMALL_PROGRAM), SMALL)

    def test_least_program(self):
        program = Program(("a",), (("o", ("s",)),), (("e", 0),), ((((0, (), ()),),),))
        self.assertEqual(format_program(program), "hears a\noutput o s\nstate e 0\nrule e a 0 e")

    def test_sources_and_writes(self):
        text = complete("hears a b\noutput o s\noutput p q r\nstate e 0\nstate x1y2 4", [
            "rule x1y2 a 8 x1y2 0 1 2 4 write p r 4 write o s 0 write p q 3 write p r 4"])
        line = "rule x1y2 a 8 x1y2 0 1 2 4 write p r 4 write o s 0 write p q 3 write p r 4"
        written = format_program(parse_program(text)).split("\n")
        self.assertEqual(written[:5], ["hears a b", "output o s", "output p q r", "state e 0", "state x1y2 4"])
        self.assertEqual(written[5:7], ["rule e a 0 e", "rule e b 0 e"])
        self.assertEqual(written[7:15], [f"rule x1y2 a {place} e" for place in range(8)])
        self.assertEqual(written[15], line)
        self.assertEqual(written[16:], [f"rule x1y2 b {place} e" for place in range(9)])

    def test_rules_in_another_order(self):
        lines = SMALL.split("\n")
        text = "\n".join(lines[:5] + lines[:4:-1])
        self.assertNotEqual(text, SMALL)
        self.assertEqual(format_program(parse_program(text)), SMALL)

    def test_order_of_names_and_states_is_that_of_the_program(self):
        text = "\n".join(["hears b a", "output z s", "output y t s", "state n 0", "state m 0",
                          "rule n b 0 m", "rule n a 0 n", "rule m b 0 n", "rule m a 0 m"])
        self.assertEqual(format_program(parse_program(text)), text)

    def test_program_from_lists(self):
        program = Program(list(SMALL_PROGRAM.names), list(SMALL_PROGRAM.outputs), list(SMALL_PROGRAM.states),
                          list(SMALL_RULES))
        self.assertEqual(format_program(program), SMALL)
        self.assertEqual(program, SMALL_PROGRAM)

    def test_longer_texts_are_written(self):
        for length in (39999, 40001, 40100):
            self.assertEqual(len(format_program(long_program(length))), length)

    def test_programs_with_different_texts_are_not_equal(self):
        lines = SMALL.split("\n")
        changes = [(0, "hears b a"), (1, "output o t s"), (1, "output o s t u"), (5, "rule e a 0 e"),
                   (7, "rule m a 0 m 0 write o s 0"), (7, "rule m a 0 m 1 write o s 1"),
                   (7, "rule m a 0 m 1 write o t 0"), (7, "rule m a 0 m 1 write p s 0"), (7, "rule m a 0 m 1"),
                   (7, "rule m a 0 m 1 write o s 0 write o s 0"), (11, "rule m b 1 m 0"),
                   (9, "rule m a 2 m 1 write p s 0 write o t 1")]
        for at, content in changes:
            with self.subTest(content):
                text = "\n".join(lines[:at] + [content] + lines[at + 1:])
                program = parse_program(text)
                self.assertNotEqual(program, SMALL_PROGRAM)
                # With the names exchanged the rules are written in another order.
                self.assertEqual(sorted(format_program(program).split("\n")), sorted(text.split("\n")))

    def test_names_of_outputs_signals_and_states_make_programs_differ(self):
        for old, new in ((" o", " u"), (" s", " z"), (" e", " f"), (" m", " n1")):
            with self.subTest(new):
                text = SMALL.replace(old, new)
                self.assertNotEqual(parse_program(text), SMALL_PROGRAM)
                self.assertEqual(format_program(parse_program(text)), text)


def random_rule(source, states, outputs, kept, place):
    candidates = kept + 1 - place % 2
    fitting = [at for at, (_, many) in enumerate(states) if many <= candidates]
    target = source.choice(fitting)
    sources = tuple(sorted(source.sample(range(candidates), states[target][1])))
    writes = []
    for _ in range(source.randint(0, 4)):
        output = source.randrange(len(outputs))
        writes.append((output, source.choice(outputs[output][1]), source.randrange(candidates)))
    return target, sources, tuple(writes)


def random_program(seed):
    source = random.Random(seed)
    words = ["a", "b", "write", "rule", "state", "hears", "output", "abcdefgh", "zz"]
    names = tuple(source.sample(words, source.randint(1, 4)))
    outputs = tuple((name, tuple(source.sample(words, source.randint(1, 4))))
                    for name in source.sample(words, source.randint(1, 3)))
    many = source.randint(0, 5)
    states = (("e0", 0),) + tuple((name, source.randint(0, 4)) for name in source.sample(words, many))
    rules = tuple(tuple(tuple(random_rule(source, states, outputs, kept, place) for place in range(2 * kept + 1))
                        for _ in names) for _, kept in states)
    return Program(names, outputs, states, rules)


class RoundTripTest(unittest.TestCase):
    def test_random_programs(self):
        for seed in range(100):
            with self.subTest(seed):
                program = random_program(seed)
                text = format_program(program)
                self.assertEqual(parse_program(text), program)
                self.assertEqual(format_program(parse_program(text)), text)


if __name__ == "__main__":
    unittest.main()
