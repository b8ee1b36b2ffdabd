"""The sequences that lead to a difference."""

from orderneed.programs import start, step
from orderneed.search import number_at


def sequences_of_item(program, item, way, messages):
    """Return the sent sequence and the other one, by a way to a pair and the messages from there on."""
    if item[0] == "order":
        return sequences_of_order(program, way, messages)
    return sequences_of_once(program, way, messages)


def sequences_of_order(program, way, messages):
    """Return two sequences of which the second one has two messages exchanged."""
    path, first, second = way
    walk = Walk(program, len(path) + 2 + len(messages))
    walk.hear_all(path, ())
    one = walk.message_at(first, ())
    other = walk.message_at(second, [one[1]])
    walk.hear_sent([one, other])
    walk.hear_came([other, one])
    walk.hear_all(messages, ())
    return walk.sequences()


def sequences_of_once(program, way, messages):
    """Return two sequences of which the second one has a message once more."""
    path, copied, between = way
    walk = Walk(program, len(path) + 1 + len(between) + len(messages))
    walk.hear_all(path, ())
    message = walk.message_at(copied, ())
    walk.hear_sent([message])
    walk.hear_came([message])
    walk.hear_all(between, [message[1]])
    walk.hear_came([message])
    walk.hear_all(messages, ())
    return walk.sequences()


def sequences_of_name(program, way, messages):
    """Return two sequences of which the second one lacks a message."""
    path, removed = way
    walk = Walk(program, len(path) + 1 + len(messages))
    walk.hear_all(path, ())
    walk.hear_sent([walk.message_at(removed, ())])
    walk.hear_all(messages, ())
    return walk.sequences()


class Walk:
    """Two sequences that grow, and the configurations to which a program comes by them."""

    def __init__(self, program, many):
        self.program = program
        # Each of the messages halves a gap at most once.
        self.width = 1 << many
        self.sent = []
        self.came = []
        self.sent_to = start(program)
        self.came_to = start(program)

    def hear_sent(self, messages):
        for message in messages:
            self.sent.append(message)
            self.sent_to, _ = step(self.program, self.sent_to, message)

    def hear_came(self, messages):
        for message in messages:
            self.came.append(message)
            self.came_to, _ = step(self.program, self.came_to, message)

    def hear_all(self, messages, also):
        """Take messages into both sequences, by their positions among the numbers that are kept, and also others."""
        for message in messages:
            placed = self.message_at(message, also)
            self.hear_sent([placed])
            self.hear_came([placed])

    def message_at(self, message, also):
        name, place = message
        numbers = sorted(set([*self.sent_to[1], *self.came_to[1], *also]))
        return name, number_at(numbers, place, self.width)

    def sequences(self):
        """Return both sequences, with each number replaced by its rank among all of them."""
        numbers = sorted(set([number for _, number in self.sent + self.came]))
        ranks = {number: rank for rank, number in enumerate(numbers)}
        sent = [(name, ranks[number]) for name, number in self.sent]
        came = [(name, ranks[number]) for name, number in self.came]
        return sent, came
