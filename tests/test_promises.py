"""Points 13 to 15: items, promises, what they keep in order, and what breaks an item."""

import copy
import itertools
import unittest

from orderneed.errors import InvalidPromise, OrderError
from orderneed.promises import Promise, all_items, keeps, shows_harm

ITEMS_OF_TWO = [
    ("order", "a", "a", "less"),
    ("order", "a", "b", "less"), ("order", "a", "b", "equal"), ("order", "a", "b", "greater"),
    ("order", "b", "b", "less"),
    ("once", "a"), ("once", "b"),
]
A_A, A_LESS_B, A_EQUAL_B, A_GREATER_B, B_B, ONCE_A, ONCE_B = ITEMS_OF_TWO
MESSAGES = [(name, number) for name in "ab" for number in (-1, 0, 1)]


class AllItemsTest(unittest.TestCase):
    def test_one_name(self):
        self.assertEqual(all_items(("a",)), [("order", "a", "a", "less"), ("once", "a")])

    def test_two_names(self):
        self.assertEqual(all_items(("a", "b")), ITEMS_OF_TWO)

    def test_names_stand_in_the_order_that_was_passed(self):
        self.assertEqual(all_items(("z", "word")), [
            ("order", "z", "z", "less"),
            ("order", "z", "word", "less"), ("order", "z", "word", "equal"), ("order", "z", "word", "greater"),
            ("order", "word", "word", "less"),
            ("once", "z"), ("once", "word"),
        ])

    def test_four_names(self):
        relations = ("less", "equal", "greater")
        expected = [("order", "d", "d", "less")]
        expected += [("order", "d", other, relation) for other in "acb" for relation in relations]
        expected += [("order", "a", "a", "less")]
        expected += [("order", "a", other, relation) for other in "cb" for relation in relations]
        expected += [("order", "c", "c", "less")]
        expected += [("order", "c", "b", relation) for relation in relations]
        expected += [("order", "b", "b", "less")]
        expected += [("once", name) for name in "dacb"]
        self.assertEqual(all_items(("d", "a", "c", "b")), expected)
        self.assertEqual(len(expected), 26)

    def test_kinds(self):
        items = all_items(["a", "b"])
        self.assertEqual(items, ITEMS_OF_TWO)
        self.assertIs(type(items), list)
        for item in items:
            self.assertIs(type(item), tuple)

    def test_names_stay_as_they_were(self):
        names = ["b", "a"]
        all_items(names)
        self.assertEqual(names, ["b", "a"])

    def test_changes_of_what_was_returned_do_not_matter(self):
        first = all_items(("a", "b"))
        second = all_items(("a", "b"))
        second.clear()
        all_items(("a", "b")).append("more")
        self.assertEqual(first, ITEMS_OF_TWO)
        self.assertEqual(all_items(("a", "b")), ITEMS_OF_TWO)


class PromiseTest(unittest.TestCase):
    def test_no_item(self):
        promise = Promise(("a", "b"), [])
        self.assertEqual((promise.names, promise.entries), (("a", "b"), ()))
        self.assertEqual(Promise(("a", "b"), ()).entries, ())

    def test_all_items(self):
        for names in (("a",), ("a", "b"), ("d", "a", "c", "b")):
            self.assertEqual(Promise(names, all_items(names)).entries, tuple(all_items(names)))

    def test_each_item_alone(self):
        for item in ITEMS_OF_TWO:
            self.assertEqual(Promise(("a", "b"), [item]).entries, (item,))

    def test_any_order(self):
        self.assertEqual(Promise(("a", "b"), ITEMS_OF_TWO[::-1]).entries, tuple(ITEMS_OF_TWO))
        for items in itertools.permutations([A_A, A_EQUAL_B, B_B, ONCE_B]):
            self.assertEqual(Promise(("a", "b"), items).entries, (A_A, A_EQUAL_B, B_B, ONCE_B))

    def test_the_order_is_that_of_the_names(self):
        items = [("order", "b", "a", "less"), ("order", "a", "a", "less"), ("once", "a"), ("once", "b")]
        self.assertEqual(Promise(("b", "a"), items).entries, (
            ("order", "b", "a", "less"), ("order", "a", "a", "less"), ("once", "b"), ("once", "a")))

    def test_lists_and_tuples(self):
        for names in (("a", "b"), ["a", "b"]):
            for items in ([ONCE_A, A_LESS_B], (ONCE_A, A_LESS_B), [list(ONCE_A), list(A_LESS_B)],
                          (list(ONCE_A), A_LESS_B)):
                with self.subTest(names=names, items=items):
                    promise = Promise(names, items)
                    self.assertEqual((promise.names, promise.entries), (("a", "b"), (A_LESS_B, ONCE_A)))
                    for value in (promise.names, promise.entries, *promise.entries):
                        self.assertIs(type(value), tuple)

    def test_arguments_stay_as_they_were(self):
        names, items = ["a", "b"], [list(ONCE_A), list(A_LESS_B)]
        Promise(names, items)
        self.assertEqual((names, items), (["a", "b"], [list(ONCE_A), list(A_LESS_B)]))

    def test_later_changes_of_the_arguments_do_not_matter(self):
        names, items = ["a", "b"], [list(ONCE_A), list(A_LESS_B)]
        promise = Promise(names, items)
        names.reverse()
        items[0][1] = "b"
        items.pop()
        self.assertEqual((promise.names, promise.entries), (("a", "b"), (A_LESS_B, ONCE_A)))

    def test_promises_do_not_matter_to_each_other(self):
        first = Promise(("a", "b"), [A_A])
        Promise(("a", "b"), [B_B, ONCE_A])
        self.assertEqual(first.entries, (A_A,))

    def test_by_keyword(self):
        self.assertEqual(Promise(names=["a"], items=[ONCE_A]).entries, (ONCE_A,))

    def test_the_interface_is_defined_here(self):
        for thing in (all_items, Promise, keeps, shows_harm):
            self.assertEqual(thing.__module__, "orderneed.promises")


class InvalidPromiseTest(unittest.TestCase):
    def check_invalid(self, items, names=("a", "b")):
        with self.assertRaises(InvalidPromise) as caught:
            Promise(names, items)
        self.assertIs(type(caught.exception), InvalidPromise)
        self.assertIsInstance(caught.exception, OrderError)

    def test_twice(self):
        for item in ITEMS_OF_TWO:
            self.check_invalid([item, item])
            self.check_invalid([item, list(item)])
        self.check_invalid(ITEMS_OF_TWO + [ONCE_A])

    def test_twice_does_not_hide_what_is_no_item(self):
        self.check_invalid([A_A, A_A, ("once", "c")])

    def test_other_names(self):
        for item in (("order", "c", "c", "less"), ("order", "a", "c", "less"), ("order", "c", "a", "less"),
                     ("once", "c"), ("once", ""), ("once", "A")):
            self.check_invalid([item])
            self.check_invalid([A_A, item])
            self.check_invalid([item, A_A])

    def test_names_in_the_wrong_order(self):
        for relation in ("less", "equal", "greater"):
            self.check_invalid([("order", "b", "a", relation)])
            self.check_invalid([("order", "a", "b", relation)], ("b", "a"))

    def test_one_name_has_only_less(self):
        for relation in ("equal", "greater"):
            self.check_invalid([("order", "a", "a", relation)])

    def test_no_relation(self):
        for relation in ("", "Less", "not", "<", None, 0, True, ["less"]):
            self.check_invalid([("order", "a", "b", relation)])

    def test_other_kinds_of_items(self):
        for item in (("Order", "a", "b", "less"), ("twice", "a"), ("once", "a", "b"), ("once", "a", "less"), ("once",),
                     ("order", "a", "b"), ("order", "a"), ("order", "a", "b", "less", "less"), (), ("a",),
                     ("once", "a", "a", "less"), ("order",), ("once", ["a"]), ("once", ("a",)), ("once", None),
                     ("once", 0), (True, False), (("once", "a"),)):
            with self.subTest(item):
                self.check_invalid([item])
                self.check_invalid([list(item)])
                self.check_invalid([ONCE_B, item])

    def test_items_that_are_no_tuples(self):
        for item in (None, 0, True, "", "once", b"once", {"once": "a"}, {"once", "a"}):
            with self.subTest(item):
                self.check_invalid([item])
                self.check_invalid([ONCE_B, item])

    def test_no_list_of_items(self):
        for items in (None, 0, True, "", "once", ONCE_A, list(ONCE_A), {}, {ONCE_A: 1}):
            with self.subTest(items):
                self.check_invalid(items)

    def test_arguments_stay_as_they_were(self):
        names, items = ["a"], [["once", "a"], ["once", "b"]]
        self.check_invalid(items, names)
        self.assertEqual((names, items), (["a"], [["once", "a"], ["once", "b"]]))


def item_keeps(item, first, second):
    """Return whether an item keeps two messages in order, word by word as point 13 says it."""
    if item[0] == "once":
        return False
    _, name, other, relation = item
    if name == other:
        return first[0] == second[0] == name and first[1] != second[1]
    if (first[0], second[0]) == (other, name):
        first, second = second, first
    if (first[0], second[0]) != (name, other):
        return False
    return {"less": first[1] < second[1], "equal": first[1] == second[1], "greater": first[1] > second[1]}[relation]


class KeepsTest(unittest.TestCase):
    def check(self, items, first, second, expected):
        promise = Promise(("a", "b"), items)
        self.assertIs(keeps(promise, first, second), expected)
        self.assertIs(keeps(promise, second, first), expected)

    def test_one_name(self):
        self.check([A_A], ("a", 1), ("a", 2), True)
        self.check([A_A], ("a", -1000000), ("a", 1000000), True)
        self.check([A_A], ("b", 1), ("b", 2), False)
        self.check([A_A], ("a", 1), ("b", 2), False)
        self.check([B_B], ("b", 1), ("b", 2), True)
        self.check([B_B], ("a", 1), ("a", 2), False)

    def test_two_names(self):
        for number, other, item in ((1, 2, A_LESS_B), (2, 2, A_EQUAL_B), (3, 2, A_GREATER_B), (-1, 0, A_LESS_B),
                                    (0, 0, A_EQUAL_B), (0, -1, A_GREATER_B)):
            for entry in ITEMS_OF_TWO:
                with self.subTest(number=number, other=other, entry=entry):
                    self.check([entry], ("a", number), ("b", other), entry == item)

    def test_the_first_name_of_the_promise_is_the_one_that_is_less(self):
        # The order of the names is that of the promise, not that of the letters.
        promise = Promise(("b", "a"), [("order", "b", "a", "less")])
        for first, second in ((("b", 1), ("a", 2)), (("a", 2), ("b", 1))):
            self.assertIs(keeps(promise, first, second), True)
        for first, second in ((("b", 2), ("a", 1)), (("a", 1), ("b", 2)), (("a", 1), ("b", 1))):
            self.assertIs(keeps(promise, first, second), False)

    def test_no_promise_keeps_equal_messages(self):
        for message in MESSAGES:
            self.check(ITEMS_OF_TWO, message, message, False)
            self.check(ITEMS_OF_TWO, message, list(message), False)

    def test_the_full_promise_keeps_all_others(self):
        for first, second in itertools.permutations(MESSAGES, 2):
            self.check(ITEMS_OF_TWO, first, second, True)

    def test_no_item_and_once_keep_nothing(self):
        for first, second in itertools.product(MESSAGES, repeat=2):
            self.check([], first, second, False)
            self.check([ONCE_A, ONCE_B], first, second, False)

    def test_each_promise(self):
        # A promise keeps what one of its items keeps.
        for many in range(len(ITEMS_OF_TWO) + 1):
            for items in itertools.combinations(ITEMS_OF_TWO, many):
                for first, second in itertools.product(MESSAGES, repeat=2):
                    expected = any(item_keeps(item, first, second) for item in items)
                    self.assertIs(keeps(Promise(("a", "b"), items), first, second), expected)

    def test_names_further_apart(self):
        promise = Promise(("c", "a", "b"), [("order", "c", "b", "greater")])
        self.assertIs(keeps(promise, ("b", 1), ("c", 5)), True)
        self.assertIs(keeps(promise, ("b", 5), ("c", 1)), False)
        self.assertIs(keeps(promise, ("a", 1), ("c", 5)), False)
        self.assertIs(keeps(promise, ("a", 5), ("b", 1)), False)

    def test_lists_and_tuples(self):
        for first in (("a", 1), ["a", 1]):
            for second in (("b", 2), ["b", 2]):
                self.check([A_LESS_B], first, second, True)
                self.check([A_GREATER_B], first, second, False)

    def test_arguments_stay_as_they_were(self):
        promise, first, second = Promise(("a", "b"), [B_B, A_LESS_B]), ["b", 2], ["a", 1]
        keeps(promise, first, second)
        self.assertEqual((first, second), (["b", 2], ["a", 1]))
        self.assertEqual((promise.names, promise.entries), (("a", "b"), (A_LESS_B, B_B)))


def broken_by(item, sent):
    """Return all sequences that break an item for the sent one, made word by word as point 15 says it."""
    found = set()
    for at in range(len(sent)):
        for to in range(at + 1, len(sent) + 1):
            if item[0] == "once" and sent[at][0] == item[1]:
                found.add(sent[:to] + (sent[at],) + sent[to:])
        if item[0] == "order" and at + 1 < len(sent) and item_keeps(item, sent[at], sent[at + 1]):
            found.add(sent[:at] + (sent[at + 1], sent[at]) + sent[at + 2:])
    return found


class ShowsHarmTest(unittest.TestCase):
    def check(self, item, sent, came, expected):
        self.assertIs(shows_harm(item, sent, came), expected)

    def test_exchange(self):
        sent, came = [("a", 1), ("a", 2)], [("a", 2), ("a", 1)]
        self.check(A_A, sent, came, True)
        self.check(A_A, came, sent, True)
        for item in ITEMS_OF_TWO[1:]:
            self.check(item, sent, came, False)

    def test_exchange_of_two_names(self):
        for number, item in ((1, A_LESS_B), (2, A_EQUAL_B), (3, A_GREATER_B)):
            sent, came = [("a", number), ("b", 2)], [("b", 2), ("a", number)]
            for entry in ITEMS_OF_TWO:
                with self.subTest(number=number, entry=entry):
                    self.check(entry, sent, came, entry == item)
                    self.check(entry, came, sent, entry == item)

    def test_exchange_at_each_place(self):
        sent = [("b", 5), ("a", 1), ("b", 7), ("a", 2), ("b", 5)]
        for at, item in ((0, A_LESS_B), (1, A_LESS_B), (2, A_LESS_B), (3, A_LESS_B)):
            came = sent[:at] + [sent[at + 1], sent[at]] + sent[at + 2:]
            for entry in ITEMS_OF_TWO:
                self.check(entry, sent, came, entry == item)

    def test_exchange_is_of_neighbours(self):
        sent = [("a", 1), ("a", 2), ("a", 3)]
        self.check(A_A, sent, [("a", 3), ("a", 2), ("a", 1)], False)
        self.check(A_A, sent, [("a", 2), ("a", 3), ("a", 1)], False)
        self.check(A_A, sent, [("a", 3), ("a", 1), ("a", 2)], False)

    def test_one_exchange_only(self):
        sent = [("a", 1), ("a", 2), ("a", 3), ("a", 4)]
        self.check(A_A, sent, [("a", 2), ("a", 1), ("a", 4), ("a", 3)], False)
        self.check(A_A, sent, [("a", 2), ("a", 1), ("a", 3), ("a", 4)], True)

    def test_the_rest_stays(self):
        sent = [("a", 1), ("a", 2), ("b", 0)]
        self.check(A_A, sent, [("a", 2), ("a", 1), ("b", 1)], False)
        self.check(A_A, sent, [("a", 2), ("a", 1)], False)
        self.check(A_A, sent, [("a", 2), ("a", 1), ("b", 0), ("b", 0)], False)
        self.check(A_A, sent, [("a", 2), ("a", 3), ("b", 0)], False)
        self.check(A_A, sent, [("a", 3), ("a", 1), ("b", 0)], False)

    def test_equal_sequences(self):
        for sent in ([], [("a", 1)], [("a", 1), ("a", 1)], [("a", 1), ("a", 2)]):
            for item in ITEMS_OF_TWO:
                self.check(item, sent, list(sent), False)

    def test_once(self):
        sent = [("a", 1), ("b", 1), ("a", 2)]
        for to in (1, 2, 3):
            came = sent[:to] + [("a", 1)] + sent[to:]
            for item in ITEMS_OF_TWO:
                with self.subTest(to=to, item=item):
                    self.check(item, sent, came, item == ONCE_A)
        self.check(ONCE_B, sent, sent + [("b", 1)], True)
        self.check(ONCE_A, sent, sent + [("b", 1)], False)

    def test_once_of_a_single_message(self):
        self.check(ONCE_A, [("a", 1)], [("a", 1), ("a", 1)], True)
        self.check(ONCE_B, [("a", 1)], [("a", 1), ("a", 1)], False)
        self.check(ONCE_A, [], [("a", 1)], False)

    def test_once_stands_after_an_equal_message(self):
        sent = [("b", 1), ("a", 1), ("a", 2)]
        self.check(ONCE_A, sent, [("a", 1), ("b", 1), ("a", 1), ("a", 2)], False)
        self.check(ONCE_A, sent, [("b", 1), ("a", 2), ("a", 1), ("a", 2)], False)
        self.check(ONCE_A, sent, [("b", 1), ("a", 3), ("a", 1), ("a", 2)], False)
        self.check(ONCE_A, sent, sent + [("a", 3)], False)

    def test_once_beside_equal_messages(self):
        # The message that is put in cannot be told from the equal ones beside it.
        sent = [("b", 0), ("a", 1), ("a", 1), ("b", 0)]
        self.check(ONCE_A, sent, [("b", 0), ("a", 1), ("a", 1), ("a", 1), ("b", 0)], True)
        self.check(ONCE_B, sent, [("b", 0), ("b", 0), ("a", 1), ("a", 1), ("b", 0)], True)
        self.check(ONCE_B, sent, [("b", 0), ("a", 1), ("a", 1), ("b", 0), ("b", 0)], True)
        self.check(ONCE_B, sent, [("b", 0), ("a", 1), ("b", 0), ("a", 1), ("b", 0)], True)

    def test_once_is_one_message_more(self):
        sent = [("a", 1), ("b", 1)]
        self.check(ONCE_A, sent, [("a", 1), ("a", 1), ("a", 1), ("b", 1)], False)
        self.check(ONCE_A, sent, [("a", 1), ("a", 1), ("b", 2)], False)
        self.check(ONCE_A, sent, [("a", 1), ("a", 1)], False)
        self.check(ONCE_A, [("a", 1), ("a", 1), ("b", 1)], sent, False)
        self.check(ONCE_A, sent, [], False)

    def test_all_short_sequences(self):
        messages = [("a", 0), ("a", 1), ("b", 0)]
        sequences = [sequence for many in range(5) for sequence in itertools.product(messages, repeat=many)]
        for item in ITEMS_OF_TWO:
            for sent in sequences:
                if len(sent) < 4:
                    broken = broken_by(item, sent)
                    for came in sequences:
                        if shows_harm(item, sent, came) is not (came in broken):
                            self.fail((item, sent, came))

    def test_an_exchange_breaks_what_keeps_it(self):
        # Point 15: a step that the promise of this item alone does not allow.
        for item in ITEMS_OF_TWO:
            promise = Promise(("a", "b"), [item])
            for first, second in itertools.product(MESSAGES, repeat=2):
                sent = [("b", 9), first, second, ("a", 9)]
                came = [("b", 9), second, first, ("a", 9)]
                self.check(item, sent, came, keeps(promise, first, second))

    def test_names_in_the_order_of_the_item(self):
        self.check(("order", "b", "a", "less"), [("b", 1), ("a", 2)], [("a", 2), ("b", 1)], True)
        self.check(("order", "b", "a", "less"), [("b", 2), ("a", 1)], [("a", 1), ("b", 2)], False)

    def test_lists_and_tuples(self):
        forms = (lambda rows: list(rows), lambda rows: tuple(rows), lambda rows: [list(row) for row in rows],
                 lambda rows: tuple(list(row) for row in rows), lambda rows: [list(rows[0]), *rows[1:]])
        sent, moved, again = [("a", 1), ("b", 2)], [("b", 2), ("a", 1)], [("a", 1), ("b", 2), ("a", 1)]
        for one in forms:
            for other in forms:
                for kind in (tuple, list):
                    self.check(kind(A_LESS_B), one(sent), other(moved), True)
                    self.check(kind(A_GREATER_B), one(sent), other(moved), False)
                    self.check(kind(ONCE_A), one(sent), other(again), True)
                    self.check(kind(ONCE_B), one(sent), other(again), False)

    def test_long_sequences(self):
        sent = [("a", number % 7) for number in range(20000)]
        self.check(A_A, sent, sent[:19998] + [sent[19999], sent[19998]], True)
        self.check(ONCE_A, sent, sent + [("a", 3)], True)
        self.check(ONCE_A, sent, sent + [("a", 7)], False)

    def test_arguments_stay_as_they_were(self):
        for item in (list(A_LESS_B), list(ONCE_A)):
            arguments = [item, [["a", 1], ["b", 2]], [["b", 2], ["a", 1]]]
            before = copy.deepcopy(arguments)
            shows_harm(*arguments)
            self.assertEqual(arguments, before)


if __name__ == "__main__":
    unittest.main()
