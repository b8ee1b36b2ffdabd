"""What a search starts from: for items of order, for items `once`, and for names (points 19, 20 and 23)."""

from orderneed.programs import step
from orderneed.promises import relation_of
from orderneed.search import doubled, number_at, ranked, ways_to_states

# Two messages are placed among the numbers of a state. The second one may lie between the first one and
# the number beside it, so a gap has room for two halvings.
WIDTH = 4


class Start:
    """The pairs from which a search starts, the way to each of them, and the way to the first difference.

    A way has what is needed to find messages that lead there. They are tuples of a name and a position.
    """

    def __init__(self, copies):
        self.copies = copies
        self.pairs = []
        self.ways = []
        self.way_to_difference = None

    def add_pair(self, pair, way, looks_same):
        self.pairs.append(pair)
        self.ways.append(way)
        if not looks_same and self.way_to_difference is None:
            self.way_to_difference = way


def start_of_item(viewed, item):
    """Return the start of an item."""
    return start_of_order(viewed, item) if item[0] == "order" else start_of_once(viewed, item[1])


def start_of_order(viewed, item):
    """Return the start of an item of order. A way has the messages to a state, and the two messages."""
    _, name, other_name, relation = item
    begin = Start([])
    for state, path in ways_to_states(viewed.program).items():
        configuration = _in_state(viewed.program, state)
        for (place, number), (other_place, other_number) in _placed_twice(configuration[1], relation):
            one = (name, number)
            other = (other_name, other_number)
            sent, written = _hear_both(viewed.program, configuration, one, other)
            came, also_written = _hear_both(viewed.program, configuration, other, one)
            begin.add_pair((sent, came), (path, (name, place), (other_name, other_place)),
                           viewed.looks_same_written(written, also_written))
    return begin


def start_of_once(viewed, name):
    """Return the start of an item `once`. Its ways are those of `ways_to_copies`."""
    ways = ways_to_copies(viewed.program, name)
    begin = Start(list(ways))
    for (configuration, number), way in ways.items():
        after, written = step(viewed.program, configuration, (name, number))
        begin.add_pair((configuration, after), way, viewed.looks_same_written(written, ()))
    return begin


def start_of_name(viewed, name):
    """Return the start of a name. A way has the messages to a state, and the message that is removed."""
    begin = Start([])
    for state, path in ways_to_states(viewed.program).items():
        before = _in_state(viewed.program, state)
        for place, number in _placed(before[1]):
            after, written = step(viewed.program, before, (name, number))
            begin.add_pair((after, before), (path, (name, place)), viewed.looks_same_written(written, ()))
    return begin


def ways_to_copies(program, name):
    """Return a dict with the copies of a name, in order, each with a way to it.

    A way has the messages to a state, the message that is copied, and the messages behind it.
    """
    ways = {}
    for copy, way in first_copies(program, name):
        ways.setdefault(copy, way)
    copies = list(ways)
    followed = 0
    while followed < len(copies):
        path, copied, between = ways[copies[followed]]
        for copy, message in next_copies(program, copies[followed]):
            if copy not in ways:
                ways[copy] = (path, copied, (*between, message))
                copies.append(copy)
        followed += 1
    return ways


def first_copies(program, name):
    """Return the copies of the states, in order, each with a way to it. A copy may be there twice."""
    found = []
    for state, path in ways_to_states(program).items():
        before = _in_state(program, state)
        for place, number in _placed(before[1]):
            after, _ = step(program, before, (name, number))
            found.append((copy_shape((after, number)), (path, (name, place), ())))
    return found


def next_copies(program, copy):
    """Return the copies that follow a copy, in order, each with its message. A copy may be there twice."""
    configuration = doubled(copy[0])
    number = 2 * copy[1]
    numbers = sorted(set([*configuration[1], number]))
    found = []
    for name in program.names:
        for place in range(2 * len(numbers) + 1):
            after, _ = step(program, configuration, (name, number_at(numbers, place, 2)))
            found.append((copy_shape((after, number)), (name, place)))
    return found


def copy_shape(copy):
    """Return a copy with each number replaced by its rank among all numbers of the copy."""
    configuration, number = copy
    numbers = sorted(set([*configuration[1], number]))
    return ranked(configuration, numbers), numbers.index(number)


def _in_state(program, state):
    """Return a configuration with this state, in which there is room between the numbers."""
    return state, tuple([WIDTH * rank for rank in range(program.states[state][1])])


def _placed(numbers):
    """Return each position among ascending numbers with a number there."""
    return [(place, number_at(numbers, place, WIDTH)) for place in range(2 * len(numbers) + 1)]


def _placed_twice(kept, relation):
    """Return the positions and numbers of two messages between which there is a relation, in order."""
    found = []
    for place, number in _placed(kept):
        for other_place, other_number in _placed(sorted(set([*kept, number]))):
            if relation_of(number, other_number) == relation:
                found.append(((place, number), (other_place, other_number)))
    return found


def _hear_both(program, configuration, first, second):
    """Return the configuration after two messages, and all that is written at them."""
    between, written = step(program, configuration, first)
    after, also_written = step(program, between, second)
    return after, written + also_written
