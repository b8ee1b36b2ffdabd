"""The items that a channel can promise, what they keep, and what breaks them (points 13 to 15)."""

from orderneed.errors import InvalidPromise

RELATIONS = ("less", "equal", "greater")


def all_items(names):
    """Return the list of all items for these names, in order."""
    items = []
    for at, name in enumerate(names):
        items.append(("order", name, name, "less"))
        for other in names[at + 1:]:
            items.extend([("order", name, other, relation) for relation in RELATIONS])
    return items + [("once", name) for name in names]


class Promise:
    """A set of items for some names."""

    def __init__(self, names, items):
        if not _are_rows(items):
            raise InvalidPromise("the items are not a list of tuples")
        given = [tuple(item) for item in items]
        entries = [item for item in all_items(names) if item in given]
        # An item that is none of these names, or that is given twice, makes what was given longer.
        if len(entries) != len(given):
            raise InvalidPromise("the items are not different items of the names")
        self.names = tuple(names)
        self.entries = tuple(entries)


def keeps(promise, first, second):
    """Return whether a promise keeps two messages in order."""
    return any([item in promise.entries for item in _order_items(first, second)])


def relation_of(number, other):
    """Return the relation of a number to another one."""
    if number < other:
        return "less"
    return "equal" if number == other else "greater"


def shows_harm(item, sent, came):
    """Return whether a sequence breaks an item for the sent one."""
    before = [tuple(message) for message in sent]
    after = [tuple(message) for message in came]
    if item[0] == "order":
        return _is_exchange(tuple(item), before, after)
    return _is_again(item[1], before, after)


def _are_rows(items):
    return isinstance(items, (list, tuple)) and all([isinstance(item, (list, tuple)) for item in items])


def _order_items(first, second):
    """Return the two forms of which an item has one if it keeps these messages in order.

    Which message comes first does not matter, so each of them is named first once. A form that is no
    item, as that of two equal messages or that with the later name first, is in no promise.
    """
    return [("order", one[0], other[0], relation_of(one[1], other[1]))
            for one, other in ((first, second), (second, first))]


def _is_exchange(item, before, after):
    at = _common_length(before, after)
    moved = before[at:at + 2]
    return (len(moved) == 2 and after == before[:at] + moved[::-1] + before[at + 2:]
            and item in _order_items(moved[0], moved[1]))


def _is_again(name, before, after):
    # If the new message stands beside equal ones, it can be any of them. The last one is looked at,
    # since each message that comes before another one of them comes before the last one, too.
    at = _common_length(before, after)
    return (len(after) == len(before) + 1 and after[at + 1:] == before[at:]
            and after[at][0] == name and after[at] in before[:at])


def _common_length(before, after):
    """Return how many messages two sequences have in common, from the first one on."""
    for at, (one, other) in enumerate(zip(before, after)):
        if one != other:
            return at
    return min(len(before), len(after))
