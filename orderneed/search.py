"""Shapes, the states to which a program can come, and the search for a difference (points 16 to 18)."""

from orderneed.cases import same_records
from orderneed.errors import TooLarge
from orderneed.programs import step

MOST_SHAPES = 1000


def shape(pair):
    """Return a pair of configurations with each number replaced by its rank among all numbers of the pair."""
    first, second = pair
    numbers = sorted(set([*first[1], *second[1]]))
    return ranked(first, numbers), ranked(second, numbers)


def states_reached(program):
    """Return the list of the indexes of the states to which a program can come, in order."""
    return list(ways_to_states(program))


def ways_to_states(program):
    """Return a dict with the states to which a program can come, in order, each with messages that lead to it.

    The messages are a tuple of tuples of a name and a position among the numbers that are kept.
    """
    ways = {0: ()}
    reached = [0]
    followed = 0
    while followed < len(reached):
        state = reached[followed]
        for name, by_position in zip(program.names, program.rules[state]):
            for place, (target, _, _) in enumerate(by_position):
                if target not in ways:
                    ways[target] = (*ways[state], (name, place))
                    reached.append(target)
        followed += 1
    return ways


def number_at(numbers, place, width):
    """Return a number at a position among ascending numbers: in the middle of a gap, or so far outside."""
    at = place // 2
    if place % 2 == 1:
        return numbers[at]
    if not numbers:
        return 0
    if at == 0:
        return numbers[0] - width
    if at == len(numbers):
        return numbers[-1] + width
    return (numbers[at - 1] + numbers[at]) // 2


class Viewed:
    """A program with its views, and what is known so far of the pairs to which its pairs go on."""

    def __init__(self, program, views):
        self.program = program
        self.views = views
        self.known = {}

    def looks_same_written(self, first, second):
        """Return whether what is written at messages looks the same."""
        # What is equal looks the same by every view. It is asked first, because it is what is found most often.
        return first == second or same_records(self.views, self.by_output(first), self.by_output(second))

    def by_output(self, written):
        return [[(signal, number) for output, signal, number in written if output == at]
                for at in range(len(self.program.outputs))]

    def outcomes(self, pair):
        """Return what `follow` returns. A pair is followed once, however many searches keep it."""
        if pair not in self.known:
            self.known[pair] = self.follow(pair)
        return self.known[pair]

    def follow(self, pair):
        """Return to which shapes a shape goes on, each once, with the first message that leads there.

        If there is a difference at a message, the list ends with it and None.
        """
        first, second = doubled(pair[0]), doubled(pair[1])
        numbers = sorted(set([*first[1], *second[1]]))
        found = {}
        for name in self.program.names:
            for place in range(2 * len(numbers) + 1):
                message = (name, number_at(numbers, place, 2))
                one, written = step(self.program, first, message)
                other, also_written = step(self.program, second, message)
                if not self.looks_same_written(written, also_written):
                    return [*list(found.items()), (None, (name, place))]
                found.setdefault(shape((one, other)), (name, place))
        return list(found.items())


class Kept:
    """The shapes that a search keeps, in order, and how it came to each of them."""

    def __init__(self):
        self.shapes = []
        self.starts = {}
        self.sources = {}

    def start_with(self, found, at):
        if found not in self.starts:
            self.add_shape(found)
            self.starts[found] = at

    def go_on_to(self, found, source, message):
        if found not in self.starts and found not in self.sources:
            self.add_shape(found)
            self.sources[found] = (source, message)

    def add_shape(self, found):
        if len(self.shapes) == MOST_SHAPES:
            raise TooLarge(f"the search would keep more than {MOST_SHAPES} shapes")
        self.shapes.append(found)

    def way_to(self, found):
        """Return the index of a first pair, and the messages by which it goes on to a shape."""
        messages = []
        while found not in self.starts:
            found, message = self.sources[found]
            messages.append(message)
        return self.starts[found], messages[::-1]


def search(viewed, pairs):
    """Return the list of the shapes that are kept, and the way to the difference, or None if there is none.

    The way is a tuple of the index of one of the pairs, and a list of messages, each a tuple of a name and
    a position among the numbers of the pair.
    """
    kept = Kept()
    for at, pair in enumerate(pairs):
        kept.start_with(shape(pair), at)
    followed = 0
    while followed < len(kept.shapes):
        source = kept.shapes[followed]
        for found, message in viewed.outcomes(source):
            if found is None:
                at, messages = kept.way_to(source)
                return kept.shapes, (at, [*messages, message])
            kept.go_on_to(found, source, message)
        followed += 1
    return kept.shapes, None


def ranked(configuration, numbers):
    """Return a configuration with each number replaced by its index among numbers."""
    state, kept = configuration
    return state, tuple([numbers.index(number) for number in kept])


def doubled(configuration):
    """Return a configuration with each number doubled, so that there is a number between any two."""
    state, kept = configuration
    return state, tuple([2 * number for number in kept])
