"""Which items a case needs, and which names its programs notice (points 21 to 24)."""

from orderneed.promises import Promise, all_items
from orderneed.search import Viewed, search
from orderneed.starts import start_of_item, start_of_name
from orderneed.walks import sequences_of_item, sequences_of_name


def harm(case, item):
    """Return None, or the index of the first program that needs an item, and two sequences that show it."""
    for index, viewed in enumerate(viewed_programs(case)):
        _, difference = find_difference(viewed, start_of_item(viewed, item))
        if difference is not None:
            way, messages = difference
            sent, came = sequences_of_item(viewed.program, item, way, messages)
            return index, sent, came
    return None


def least_promise(case):
    """Return the promise with the items that are needed by at least one program of a case."""
    programs = viewed_programs(case)
    names = case.programs[0].names
    # Each program is asked, also behind one that needs the item, because its search may be too large.
    return Promise(names, [item for item in all_items(names)
                           if any([_needs(viewed, item) for viewed in programs])])


def is_enough(case, promise):
    """Return whether a promise has all items of the least promise of a case."""
    return all([item in promise.entries for item in least_promise(case).entries])


def noticed(case, name):
    """Return None, or the index of the first program that is not deaf to a name, and two sequences that show it."""
    for index, viewed in enumerate(viewed_programs(case)):
        _, difference = find_difference(viewed, start_of_name(viewed, name))
        if difference is not None:
            way, messages = difference
            whole, less = sequences_of_name(viewed.program, way, messages)
            return index, whole, less
    return None


def deaf_names(case):
    """Return the list of the names to which all programs of a case are deaf, in order."""
    programs = viewed_programs(case)
    # Each program is asked, also behind one that is not deaf, because its search may be too large.
    return [name for name in case.programs[0].names
            if all([_is_deaf(viewed, name) for viewed in programs])]


def viewed_programs(case):
    """Return the list of the programs of a case with their views."""
    return [Viewed(program, views) for program, views in zip(case.programs, case.views)]


def find_difference(viewed, begin):
    """Return the shapes that the search from a start keeps, and None or the difference.

    The difference is a tuple of the way to a pair of the start and the messages from there on. If the start
    has a difference, nothing is searched.
    """
    if begin.way_to_difference is not None:
        return [], (begin.way_to_difference, [])
    shapes, found = search(viewed, begin.pairs)
    if found is None:
        return shapes, None
    at, messages = found
    return shapes, (begin.ways[at], messages)


def _needs(viewed, item):
    _, difference = find_difference(viewed, start_of_item(viewed, item))
    return difference is not None


def _is_deaf(viewed, name):
    _, difference = find_difference(viewed, start_of_name(viewed, name))
    return difference is None
