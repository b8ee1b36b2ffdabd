"""Certificates of items, and their check (points 25 to 27)."""

from orderneed.cases import same_records
from orderneed.messages import is_message, is_row, is_whole
from orderneed.needs import find_difference
from orderneed.programs import run, step
from orderneed.promises import shows_harm
from orderneed.search import Viewed, shape
from orderneed.starts import copy_shape, first_copies, next_copies, start_of_item, start_of_order
from orderneed.walks import sequences_of_item


def certificate(case, index, item):
    """Return the certificate of an item for the program with this index."""
    viewed = Viewed(case.programs[index], case.views[index])
    begin = start_of_item(viewed, item)
    shapes, difference = find_difference(viewed, begin)
    if difference is None:
        return "safe", begin.copies, shapes
    way, messages = difference
    sent, came = sequences_of_item(viewed.program, item, way, messages)
    return "harm", sent, came


def accepts(case, index, item, value):
    """Return whether the check accepts a value as a certificate of an item for the program with this index."""
    if not is_row(value) or len(value) != 3:
        return False
    kind, first, second = value
    if not is_row(first) or not is_row(second):
        return False
    viewed = Viewed(case.programs[index], case.views[index])
    if kind == "harm":
        return _accepts_harm(viewed, item, first, second)
    return kind == "safe" and _accepts_safe(viewed, item, first, second)


def _accepts_harm(viewed, item, sent, came):
    names = viewed.program.names
    return (all([is_message(message, names) for message in [*sent, *came]]) and shows_harm(item, sent, came)
            and not _have_same_records(viewed, sent, came))


def _have_same_records(viewed, sent, came):
    _, expected = run(viewed.program, sent)
    _, record = run(viewed.program, came)
    return same_records(viewed.views, expected, record)


def _accepts_safe(viewed, item, copies, pairs):
    program = viewed.program
    if not all([_is_copy(program, copy) for copy in copies]) or not all([_is_pair(program, pair) for pair in pairs]):
        return False
    listed_copies = {(_as_tuples(configuration), number): True for configuration, number in copies}
    listed_pairs = {(_as_tuples(first), _as_tuples(second)): True for first, second in pairs}
    if item[0] == "order":
        covered = not copies and _covers_order(viewed, item, listed_pairs)
    else:
        covered = _covers_once(viewed, item[1], listed_copies, listed_pairs)
    return covered and _are_closed(viewed, listed_pairs)


def _covers_order(viewed, item, pairs):
    begin = start_of_order(viewed, item)
    return begin.way_to_difference is None and all([shape(pair) in pairs for pair in begin.pairs])


def _covers_once(viewed, name, copies, pairs):
    if not all([copy in copies for copy, _ in first_copies(viewed.program, name)]):
        return False
    return all([_is_covered_copy(viewed, name, copy, copies, pairs) for copy in copies])


def _is_covered_copy(viewed, name, copy, copies, pairs):
    configuration, number = copy
    after, written = step(viewed.program, configuration, (name, number))
    return (viewed.looks_same_written(written, ()) and shape((configuration, after)) in pairs
            and all([following in copies for following, _ in next_copies(viewed.program, copy)]))


def _are_closed(viewed, pairs):
    """Return whether nothing looks different behind these pairs, and all to which they go on are among them."""
    for pair in pairs:
        # A difference stands as None among what is found, and so among no pairs.
        if not all([found in pairs for found, _ in viewed.follow(pair)]):
            return False
    return True


def _is_pair(program, value):
    return (is_row(value) and len(value) == 2 and all([_is_configuration(program, part) for part in value])
            and shape(value) == (_as_tuples(value[0]), _as_tuples(value[1])))


def _is_copy(program, value):
    return (is_row(value) and len(value) == 2 and _is_configuration(program, value[0]) and is_whole(value[1])
            and copy_shape(value) == (_as_tuples(value[0]), value[1]))


def _is_configuration(program, value):
    """Return whether a value is a configuration of a program, perhaps of lists."""
    if not is_row(value) or len(value) != 2:
        return False
    state, kept = value
    return (is_whole(state) and 0 <= state < len(program.states) and is_row(kept)
            and len(kept) == program.states[state][1] and all([is_whole(number) for number in kept])
            and list(kept) == sorted(set(kept)))


def _as_tuples(configuration):
    state, kept = configuration
    return state, tuple(kept)
