"""Programs that several tests use."""

from orderneed.cases import Case
from orderneed.programs import Program
from orderneed.texts import parse_program
from reference import some_program

# Keeps the greatest number, and writes each new greatest one but the first.
GREATEST = parse_program("hears a\noutput o s\nstate e 0\nstate m 1\nrule e a 0 m 0\n"
                         "rule m a 0 m 1\nrule m a 1 m 0\nrule m a 2 m 1 write o s 1")

# Writes nothing, and keeps nothing.
SILENT = parse_program("hears a b\noutput o s\nstate e 0\nrule e a 0 e\nrule e b 0 e")

# Writes each message, "a" with the signal s and "b" with the signal t.
ECHO = parse_program("hears a b\noutput o s t\nstate e 0\nrule e a 0 e write o s 0\nrule e b 0 e write o t 0")

# Writes "a" and "b" to different outputs.
APART = parse_program("hears a b\noutput o s\noutput p s\nstate e 0\n"
                      "rule e a 0 e write o s 0\nrule e b 0 e write p s 0")

# Writes once that something was heard, and then nothing more.
FIRST = parse_program("hears a b\noutput o s\nstate e 0\nstate f 0\nrule e a 0 f write o s 0\nrule e b 0 f\n"
                      "rule f a 0 f\nrule f b 0 f")

# Writes the signals of two messages "a" in turn.
IN_TURN = parse_program("hears a b\noutput o s t\nstate e 0\nstate f 0\nrule e a 0 f write o s 0\nrule e b 0 e\n"
                        "rule f a 0 e write o t 0\nrule f b 0 f")


def threshold(keeps_greater, at_less, at_equal, at_greater):
    """Return a program that keeps one number of all "a", the greatest or the least one.

    It writes a "b" whose number is less than the one that is kept, equal to it or greater, as it is told.
    """
    written = " write o s {}"
    lines = ["hears a b", "output o s", "state e 0", "state m 1", "rule e a 0 m 0", "rule e b 0 e",
             "rule m a 0 m {}".format(int(keeps_greater)), "rule m a 1 m 0",
             "rule m a 2 m {}".format(int(keeps_greater)),
             "rule m b 0 m 1" + (written.format(0) if at_less else ""),
             "rule m b 1 m 0" + (written.format(0) if at_equal else ""),
             "rule m b 2 m 0" + (written.format(1) if at_greater else "")]
    return parse_program("\n".join(lines))


def lock(key):
    """Return a program that writes at the end of a key, if "c" was heard at its beginning.

    The key is a string of names "a" and "b". "c" is heard at the beginning only, and it is not forgotten.
    """
    many = len(key)
    states = [(f"{flag}{at}", 0) for flag in "no" for at in range(many)]
    lines = ["hears a b c", "output o s"] + [f"state {state} 0" for state, _ in states]
    for at in range(many):
        for flag in "no":
            for name in "ab":
                target = f"{flag}{(at + 1) % many}" if name == key[at] else f"{flag}0"
                written = " write o s 0" if flag == "o" and name == key[at] and at == many - 1 else ""
                lines.append(f"rule {flag}{at} {name} 0 {target}{written}")
            lines.append(f"rule {flag}{at} c 0 {'o' if at == 0 else flag}{at}")
    return parse_program("\n".join(lines))


def narrowing(many):
    """Return a program that goes on to its next state only by numbers between two that it keeps, and then keeps
    one of the two and the new one. It writes in its last state only."""
    many_kept = [0, 1] + [2] * many
    rules = [(((1, (0,), ()),),), (((2, (0, 1), ()), (1, (0,), ()), (2, (0, 1), ())),)]
    for at in range(many):
        state, last = at + 2, at == many - 1
        stay = (state, (0, 1), ((0, "s", 0),) if last else ())
        outside = (state, (1, 2), stay[2]), (state, (0, 1), stay[2])
        between = stay if last else (state + 1, (at % 2, at % 2 + 1), ())
        rules.append(((outside[0], stay, between, stay, outside[1]),))
    states = tuple((f"q{at}", kept) for at, kept in enumerate(many_kept))
    return Program(("a",), (("o", ("s",)),), states, tuple(rules))


# These two write nothing. The searches for the items and the names of the first one keep, or would keep, so many
# shapes, with one more than 1000 among them; those of the second one keep at most 1000, some of them exactly 1000.
AT_THE_BOUND = some_program(63216, 2, 19, 2, 1, 0, 0)
SHAPES_AT_THE_BOUND = {
    ("order", "a", "a", "less"): 1000,
    ("order", "a", "b", "less"): 1003, ("order", "a", "b", "equal"): 997, ("order", "a", "b", "greater"): 998,
    ("order", "b", "b", "less"): 1002,
    ("once", "a"): 1000, ("once", "b"): 1001,
}
TOO_LARGE_ITEMS = [item for item, many in SHAPES_AT_THE_BOUND.items() if many > 1000]
DEAF_SHAPES_AT_THE_BOUND = {"a": 1000, "b": 1001}
JUST_FITTING = some_program(207188, 2, 14, 3, 1, 0, 0)


def echoing(program):
    """Return a program that does the same, and writes each message: the first name as s, all others as t."""
    # The candidate with half the position of a number as its index is this number.
    rules = tuple(tuple(tuple((target, sources, writes + ((0, "s" if at == 0 else "t", place // 2),))
                              for place, (target, sources, writes) in enumerate(by_position))
                        for at, by_position in enumerate(by_name)) for by_name in program.rules)
    return Program(program.names, (("out", ("s", "t")),), program.states, rules)


def case_of(*programs, view="ordered"):
    """Return a case in which all outputs of all programs are looked at in one way."""
    return Case(list(programs), [[view] * len(program.outputs) for program in programs])
