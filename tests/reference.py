"""The points 16 to 24 and 26 once more, word by word and with fractions, to compare the program with."""

from collections import Counter
from fractions import Fraction

from orderneed.programs import Program

RELATIONS = {"less": lambda number, other: number < other, "equal": lambda number, other: number == other,
             "greater": lambda number, other: number > other}
MOST_SHAPES = 1000
TOO_LARGE = "too large"
DIFFERENCE = "difference"


def at_positions(numbers):
    """Return a number at each position among different numbers, in ascending order."""
    numbers = sorted(set(numbers))
    if not numbers:
        return [Fraction(0)]
    found = [numbers[0] - Fraction(1)]
    for at, number in enumerate(numbers):
        found.append(Fraction(number))
        found.append((number + Fraction(numbers[at + 1])) / 2 if at + 1 < len(numbers) else number + Fraction(1))
    return found


def hear(program, configuration, name, number):
    """Return the next configuration and what is written."""
    state, kept = configuration
    place = 2 * sum(other < number for other in kept) + (number in kept)
    target, sources, writes = program.rules[state][program.names.index(name)][place]
    candidates = sorted({*kept, number})
    return ((target, tuple(candidates[source] for source in sources)),
            [(output, signal, candidates[source]) for output, signal, source in writes])


def look_same(views, first, second):
    """Return whether two lists of what is written look the same on each output."""
    for output, view in enumerate(views):
        one, other = ([entry[1:] for entry in written if entry[0] == output] for written in (first, second))
        if view == "ordered" and one != other or view == "unordered" and Counter(one) != Counter(other):
            return False
    return True


def shape_of(pair):
    numbers = sorted({number for _, kept in pair for number in kept})
    return tuple((state, tuple(numbers.index(number) for number in kept)) for state, kept in pair)


def copy_shape_of(configuration, number):
    (state, kept), (_, (rank,)) = shape_of((configuration, (0, (number,))))
    return (state, kept), rank


def states_of(program):
    found = [0]
    for state in found:
        for by_position in program.rules[state]:
            for rule in by_position:
                if rule[0] not in found:
                    found.append(rule[0])
    return found


def configurations_of(program):
    return [(state, tuple(range(program.states[state][1]))) for state in states_of(program)]


def copies_of(program, name):
    found = []
    for configuration in configurations_of(program):
        for number in at_positions(configuration[1]):
            found.append(copy_shape_of(hear(program, configuration, name, number)[0], number))
    found = list(dict.fromkeys(found))
    for configuration, number in found:
        for other in program.names:
            for between in at_positions([*configuration[1], number]):
                copy = copy_shape_of(hear(program, configuration, other, between)[0], number)
                if copy not in found:
                    found.append(copy)
    return found


def start_of(program, views, item):
    """Return the start pairs of an item, and whether the start has a difference."""
    pairs, differs = [], False
    if item[0] == "once":
        for configuration, number in copies_of(program, item[1]):
            after, written = hear(program, configuration, item[1], number)
            pairs.append((configuration, after))
            differs = differs or not look_same(views, written, [])
        return pairs, differs
    _, name, other_name, relation = item
    for configuration in configurations_of(program):
        for number in at_positions(configuration[1]):
            for other in at_positions([*configuration[1], number]):
                if RELATIONS[relation](number, other):
                    first, one = hear(program, configuration, name, number)
                    first, two = hear(program, first, other_name, other)
                    second, three = hear(program, configuration, other_name, other)
                    second, four = hear(program, second, name, number)
                    pairs.append((first, second))
                    differs = differs or not look_same(views, one + two, three + four)
    return pairs, differs


def start_of_name(program, views, name):
    """Return the start pairs of a name, and whether the start has a difference."""
    pairs, differs = [], False
    for configuration in configurations_of(program):
        for number in at_positions(configuration[1]):
            after, written = hear(program, configuration, name, number)
            pairs.append((after, configuration))
            differs = differs or not look_same(views, written, [])
    return pairs, differs


def search_from(program, views, start, most=MOST_SHAPES):
    """Return the shapes that the search from a start keeps, or what else it ends with."""
    pairs, differs = start
    if differs:
        return DIFFERENCE
    kept = dict.fromkeys(shape_of(pair) for pair in pairs)
    if len(kept) > most:
        return TOO_LARGE
    queue = list(kept)
    for first, second in queue:
        for name in program.names:
            for number in at_positions([*first[1], *second[1]]):
                one, written = hear(program, first, name, number)
                other, also_written = hear(program, second, name, number)
                if not look_same(views, written, also_written):
                    return DIFFERENCE
                found = shape_of((one, other))
                if found not in kept:
                    if len(kept) == most:
                        return TOO_LARGE
                    kept[found] = None
                    queue.append(found)
    return queue


class Dice:
    """Numbers that look as if thrown, the same in each Python."""

    def __init__(self, seed):
        # Seeds that lie side by side are driven apart, so that the first throws differ, too.
        self.state = seed * 2654435761 % 2 ** 31

    def throw(self, many):
        """Return a number from 0 to many - 1."""
        self.state = (self.state * 1103515245 + 12345) % 2 ** 31
        return (self.state >> 8) % many

    def choose(self, values):
        return values[self.throw(len(values))]

    def choose_some(self, values, many):
        """Return that many of these different values, in ascending order."""
        left = list(values)
        return tuple(sorted(left.pop(self.throw(len(left))) for _ in range(many)))


def some_program(seed, names=2, states=3, most_kept=2, outputs=1, writes=1, share=50):
    """Return a program that is made by dice; of its rules about a share of 100 writes."""
    dice = Dice(seed)
    words = ("a", "b", "c", "d")[:names]
    heads = (("out", ("s", "t")), ("log", ("log",)), ("end", ("s",)))[:outputs]
    many = [0] + [dice.throw(most_kept + 1) for _ in range(states - 1)]
    rules = tuple(tuple(tuple(_some_rule(dice, many, kept + 1 - place % 2, heads, writes, share)
                              for place in range(2 * kept + 1)) for _ in words) for kept in many)
    return Program(words, heads, tuple((f"q{at}", kept) for at, kept in enumerate(many)), rules)


def _some_rule(dice, many, candidates, heads, writes, share):
    target = dice.choose([at for at, kept in enumerate(many) if kept <= candidates])
    sources = dice.choose_some(range(candidates), many[target])
    written = []
    while len(written) < writes and dice.throw(100) < share:
        output = dice.throw(len(heads))
        written.append((output, dice.choose(heads[output][1]), dice.throw(candidates)))
    return target, sources, tuple(written)


def some_views(seed, outputs):
    dice = Dice(seed)
    return [dice.choose(("ordered", "unordered", "ignored")) for _ in range(outputs)]
