"""Programs, and what they keep and write when they hear messages (points 3 to 6)."""


class Program:
    """What a program hears, its outputs, its states and its rules."""

    def __init__(self, names, outputs, states, rules):
        self.names = tuple(names)
        self.outputs = tuple(outputs)
        self.states = tuple(states)
        self.rules = tuple(rules)

    def __eq__(self, other):
        return (isinstance(other, Program) and self.names == other.names and self.outputs == other.outputs
                and self.states == other.states and self.rules == other.rules)


def start(program):
    """Return the configuration in which the program starts."""
    # The first state of every program keeps no number, so the program need not be asked.
    return 0, ()


def position(kept, number):
    """Return the position of a number among the kept numbers."""
    less = len([other for other in kept if other < number])
    return 2 * less + 1 if number in kept else 2 * less


def step(program, configuration, message):
    """Return the next configuration, and what is written, as tuples of output, signal and number."""
    state, kept = configuration
    name, number = message
    rule = program.rules[state][program.names.index(name)][position(kept, number)]
    target, sources, writes = rule
    candidates = sorted(set([*kept, number]))
    written = tuple([(output, signal, candidates[source]) for output, signal, source in writes])
    return (target, tuple([candidates[source] for source in sources])), written


def run(program, messages):
    """Return the configuration after the messages, and the record."""
    configuration = start(program)
    record = [[] for _ in program.outputs]
    for message in messages:
        configuration, written = step(program, configuration, message)
        for output, signal, number in written:
            record[output].append((signal, number))
    return configuration, record
