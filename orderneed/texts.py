"""The text of a program: reading it (points 7 to 9) and writing it (point 10)."""

from orderneed.errors import Doubled, Malformed, Misplaced, Missing, Repeated, TooMany, Unfit, Unknown
from orderneed.programs import Program

LETTERS = "abcdefghijklmnopqrstuvwxyz"
DIGITS = "0123456789"
WORD_LENGTH = 8
MOST_CHARACTERS = 40000
MOST_WORDS = 4
MOST_KEPT = 4
MOST_SOURCES = 4
MOST_WRITES = 4
MOST_OUTPUTS = 3
MOST_STATES = 20
RULE_HEAD = 5
WRITE_PARTS = 4


def parse_program(text):
    """Return the program of a text."""
    if len(text) > MOST_CHARACTERS:
        raise TooMany(0)
    draft = Draft()
    lines = text.split("\n")
    for line, content in enumerate(lines, start=1):
        draft.read_line(line, content.split(" "))
    if not draft.states:
        raise Misplaced(len(lines) + 1)
    return Program(draft.names, draft.outputs, draft.states, draft.all_rules())


def format_program(program):
    """Return the text of a program."""
    hears = " ".join(["hears", *program.names])
    outputs = [" ".join(["output", name, *signals]) for name, signals in program.outputs]
    states = [f"state {name} {kept}" for name, kept in program.states]
    rules = _rule_lines(program)
    return "\n".join([hears, *outputs, *states, *rules])


def _rule_lines(program):
    lines = []
    for (state, _), by_name in zip(program.states, program.rules):
        for name, by_position in zip(program.names, by_name):
            for place, rule in enumerate(by_position):
                lines.append(f"rule {state} {name} {place} {_format_rule(program, rule)}")
    return lines


def _format_rule(program, rule):
    target, sources, writes = rule
    parts = [program.states[target][0]] + [str(source) for source in sources]
    for output, signal, source in writes:
        name = program.outputs[output][0]
        parts.append(f"write {name} {signal} {source}")
    return " ".join(parts)


class Draft:
    """What the lines that were read so far tell of a program."""

    def __init__(self):
        self.names = ()
        self.outputs = []
        self.states = []
        self.rules = {}

    def read_line(self, line, parts):
        kind = parts[0]
        if not _has_a_form(parts):
            raise Malformed(line)
        if not self.is_in_order(kind):
            raise Misplaced(line)
        if kind == "hears":
            self.names = tuple(parts[1:])
        elif kind == "output":
            self.read_output(line, parts)
        elif kind == "state":
            self.read_state(line, parts)
        else:
            self.read_rule(line, parts)

    def is_in_order(self, kind):
        # Only lines in order were taken so far: with outputs there are names, with states there are outputs.
        if kind == "hears":
            return not self.names
        if kind == "output":
            return bool(self.names) and not self.states
        if kind == "state":
            return bool(self.outputs) and not self.rules
        return bool(self.states)

    def read_output(self, line, parts):
        name = parts[1]
        if name in _first_parts(self.outputs):
            raise Repeated(line, name)
        if len(self.outputs) == MOST_OUTPUTS:
            raise TooMany(line)
        self.outputs.append((name, tuple(parts[2:])))

    def read_state(self, line, parts):
        name = parts[1]
        kept = int(parts[2])
        if name in _first_parts(self.states):
            raise Repeated(line, name)
        if not self.states and kept > 0:
            raise Unfit(line)
        if len(self.states) == MOST_STATES:
            raise TooMany(line)
        self.states.append((name, kept))

    def read_rule(self, line, parts):
        # Parts are looked up from left to right, because the first unknown one decides.
        states = _first_parts(self.states)
        state = _index_of(line, parts[1], states)
        name = _index_of(line, parts[2], self.names)
        place = int(parts[3])
        target = _index_of(line, parts[4], states)
        source_parts, write_parts = _split_tail(parts)
        writes = [self.read_write(line, write) for write in write_parts]
        sources = [int(source) for source in source_parts]
        if len(sources) != self.states[target][1] or not _is_fit(self.states[state][1], place, sources, writes):
            raise Unfit(line)
        if (state, name, place) in self.rules:
            raise Doubled(line)
        self.rules[(state, name, place)] = (target, tuple(sources), tuple(writes))

    def read_write(self, line, parts):
        output = _index_of(line, parts[1], _first_parts(self.outputs))
        signal = parts[2]
        if signal not in self.outputs[output][1]:
            raise Unknown(line, signal)
        return output, signal, int(parts[3])

    def all_rules(self):
        rules = []
        for state in range(len(self.states)):
            rules.append(tuple([self.rules_by_position(state, name) for name in range(len(self.names))]))
        return rules

    def rules_by_position(self, state, name):
        word, kept = self.states[state]
        rules = []
        for place in range(2 * kept + 1):
            if (state, name, place) not in self.rules:
                raise Missing(word, self.names[name], place)
            rules.append(self.rules[(state, name, place)])
        return tuple(rules)


def _has_a_form(parts):
    kind = parts[0]
    if kind == "hears":
        return _are_different_words(parts[1:])
    if kind == "output":
        # The name stands apart, because a signal may be equal to it.
        return len(parts) > 1 and _is_word(parts[1]) and _are_different_words(parts[2:])
    if kind == "state":
        return len(parts) == 3 and _is_state(parts[1]) and _is_digit(parts[2], MOST_KEPT)
    return kind == "rule" and _is_rule(parts)


def _are_different_words(parts):
    return (1 <= len(parts) <= MOST_WORDS and all([_is_word(part) for part in parts])
            and len(set(parts)) == len(parts))


def _is_word(part):
    return 1 <= len(part) <= WORD_LENGTH and all([character in LETTERS for character in part])


def _is_state(part):
    # The length is asked first, because an empty part has no first character.
    return (1 <= len(part) <= WORD_LENGTH and part[0] in LETTERS
            and all([character in LETTERS or character in DIGITS for character in part]))


def _is_digit(part, greatest):
    # The length is asked, too, because "12" also stands in "0123456789".
    return len(part) == 1 and part in DIGITS[:greatest + 1]


def _is_rule(parts):
    if len(parts) < RULE_HEAD:
        return False
    _, state, name, place, target = parts[:RULE_HEAD]
    sources, writes = _split_tail(parts)
    return (_is_state(state) and _is_word(name) and _is_digit(place, 2 * MOST_KEPT) and _is_state(target)
            and len(sources) <= MOST_SOURCES and all([_is_source(source) for source in sources])
            and len(writes) <= MOST_WRITES and all([_is_write(write) for write in writes]))


def _split_tail(parts):
    """Return the sources behind the head of a rule, and the writes behind them, each a list of its parts."""
    tail = parts[RULE_HEAD:]
    many = tail.index("write") if "write" in tail else len(tail)
    return tail[:many], [tail[at:at + WRITE_PARTS] for at in range(many, len(tail), WRITE_PARTS)]


def _is_source(part):
    return _is_digit(part, MOST_KEPT)


def _is_write(parts):
    return (len(parts) == WRITE_PARTS and parts[0] == "write" and _is_word(parts[1]) and _is_word(parts[2])
            and _is_source(parts[3]))


def _is_fit(kept, place, sources, writes):
    """Return whether a state that keeps so many numbers can have a rule with this position and these sources."""
    # At an odd position the number of the message is a kept one, so it is no further candidate.
    candidates = kept if place % 2 == 1 else kept + 1
    used = sources + [write[2] for write in writes]
    return (place <= 2 * kept and sources == sorted(set(sources))
            and all([source < candidates for source in used]))


def _first_parts(rows):
    return [row[0] for row in rows]


def _index_of(line, word, words):
    if word not in words:
        raise Unknown(line, word)
    return words.index(word)
