"""Points 33 and 34: the journal of a receiver, and its replay."""

import itertools
import unittest

from orderneed.errors import Changed, Full, TextError
from orderneed.parcels import Receiver, replay, resume
from orderneed.promises import Promise, all_items
from reference import Dice
from test_receivers import contents, shuffled
from test_senders import ALL, NAMES, NONE, send_all, some_messages, some_promise

WORDS = ("abcdefgh", "b")
LONG_NAMES = Promise(WORDS, all_items(WORDS))


def checksum_of(text, checksum=1):
    """Return the checksum of a text, as point 33 tells it, from an earlier one on."""
    for character in text:
        checksum = (256 * checksum + ord(character)) % 65521
    return checksum


def journal_of(*entries):
    """Return the lines of these entries with their checksums."""
    return "".join(f"{entry} {checksum_of(''.join(entries[:at + 1]))}\n" for at, entry in enumerate(entries))


def entry_of(parcel):
    return "{} {} {} {}".format(*parcel)


class JournalTest(unittest.TestCase):
    def test_nothing_came(self):
        self.assertEqual(Receiver(ALL).journal(), "")

    def test_lines(self):
        receiver = Receiver(ALL)
        receiver.come(("b", -3, 0, 0))
        # 1 becomes 256 + 98 at "b", (256 * 354 + 32) modulo 65521 = 25135 at the space, and so on.
        self.assertEqual(checksum_of("b"), 354)
        self.assertEqual(checksum_of("b "), 25135)
        self.assertEqual(receiver.journal(), f"b -3 0 0 {checksum_of('b -3 0 0')}\n")
        receiver.come(["a", 1000000, 1, 1000])
        self.assertEqual(receiver.journal(), journal_of("b -3 0 0", "a 1000000 1 1000"))
        # The checksum goes on from line to line, without the checksums and the newlines.
        second = receiver.journal().split("\n")[1]
        self.assertEqual(second, f"a 1000000 1 1000 {checksum_of('a 1000000 1 1000', checksum_of('b -3 0 0'))}")

    def test_a_line_for_each_parcel_that_came(self):
        receiver = Receiver(ALL)
        coming = [("a", 2, 1, 0), ("a", 2, 1, 0), ("a", 1, 0, 0), ("a", 1, 0, 0), ("b", 0, 9, 9)]
        self.assertEqual([receiver.come(parcel)[0] for parcel in coming],
                         ["waits", "dropped", "passes", "dropped", "waits"])
        self.assertEqual(receiver.journal(), journal_of(*map(entry_of, coming)))

    def test_errors_are_not_written(self):
        receiver = Receiver(NONE)
        for at in range(300):
            receiver.come(("a", at, 0, 0))
            with self.assertRaises(ValueError):
                receiver.come(("c", at, 0, 0))
        self.assertRaises(Full, receiver.come, ("b", 1, 0, 0))
        self.assertEqual(receiver.journal(), journal_of(*[f"a {at} 0 0" for at in range(300)]))

    def test_a_resumed_receiver_begins_a_new_one(self):
        old = Receiver(ALL)
        old.come(("a", 1, 0, 0))
        old.come(("b", 1, 2, 0))
        new = resume(ALL, old.kept())
        self.assertEqual(new.journal(), "")
        new.come(("a", 2, 1, 0))
        new.come(("a", 1, 0, 0))
        self.assertEqual(new.journal(), journal_of("a 2 1 0", "a 1 0 0"))

    def test_some_journals(self):
        for seed in range(40):
            promise = some_promise(seed)
            parcels = send_all(promise, some_messages(seed, 12))
            receiver = Receiver(promise)
            coming = shuffled(seed, parcels + parcels[::2])
            for parcel in coming:
                receiver.come(parcel)
            self.assertEqual(receiver.journal(), journal_of(*map(entry_of, coming)))


class ReplayTest(unittest.TestCase):
    def test_no_lines(self):
        for text in ("", "a", "a 1 0 0", "a 1 0 0 1", "nonsense"):
            self.assertEqual(contents(replay(ALL, text)), contents(Receiver(ALL)))
            self.assertIs(type(replay(ALL, text)), Receiver)

    def test_the_same_receiver(self):
        for seed in range(60):
            promise = some_promise(seed)
            parcels = shuffled(seed, send_all(promise, some_messages(seed, 20)))
            receiver = Receiver(promise)
            for parcel in parcels[:12] + parcels[:3]:
                receiver.come(parcel)
            again = replay(promise, receiver.journal())
            self.assertEqual(contents(again), contents(receiver))
            for parcel in parcels:
                self.assertEqual(again.come(parcel), receiver.come(parcel))
            self.assertEqual(contents(again), contents(receiver))

    def test_what_stands_after_the_last_newline_is_ignored(self):
        text = journal_of("a 1 0 0", "b 1 1 0")
        self.assertEqual(replay(ALL, text).passed(), [("a", 1), ("b", 1)])
        for end in range(len(text)):
            whole = text[:end].count("\n")
            self.assertEqual(replay(ALL, text[:end]).passed(), [("a", 1), ("b", 1)][:whole])
        for tail in ("x", " ", "a 2 2 0 1", "\t\r"):
            self.assertEqual(replay(ALL, text + tail).journal(), text)

    def test_numbers_at_both_bounds(self):
        for number, ahead, again in itertools.product((-1000000, 0, 1000000), (0, 1000), (0, 1000)):
            text = journal_of(f"abcdefgh {number} {ahead} {again}")
            self.assertEqual(sum(replay(LONG_NAMES, text).kept(), []), [("abcdefgh", number, ahead, again)])

    def test_three_hundred_lines_and_one_more(self):
        entries = [f"a {at} {at} 0" for at in range(301)]
        receiver = replay(ALL, journal_of(*entries[:300]))
        self.assertEqual(len(receiver.passed()), 300)
        self.assertRaises(Full, receiver.come, ("a", 300, 300, 0))
        self.assertRaises(Full, replay, ALL, journal_of(*entries))
        self.assertRaises(Full, replay, NONE, journal_of(*["a 1 0 0"] * 301))
        self.assertEqual(replay(NONE, journal_of(*["a 1 0 0"] * 300)).passed(), [("a", 1)])
        # A line too many that is not complete is none.
        self.assertEqual(len(replay(ALL, journal_of(*entries)[:-1]).passed()), 300)

    def test_all_lines_are_checked_first(self):
        entries = [f"a {at} {at} 0" for at in range(320)]
        text = journal_of(*entries)
        self.assertRaises(Full, replay, ALL, text)
        for line in (1, 300, 301, 320):
            lines = text.split("\n")
            lines[line - 1] = lines[line - 1] + "0"
            self.assert_changed(line, "\n".join(lines))

    def assert_changed(self, line, text, promise=ALL):
        with self.assertRaises(Changed) as caught:
            replay(promise, text)
        self.assertEqual(caught.exception.line, line, text)
        self.assertIsInstance(caught.exception, TextError)

    def test_the_first_line_that_is_changed(self):
        good = journal_of("a 1 0 0", "b 1 1 0", "a 2 2 0")
        lines = good.split("\n")
        for line in (1, 2, 3):
            changed = lines[:line - 1] + ["nonsense"] * (3 - line + 1) + [""]
            self.assert_changed(line, "\n".join(changed))
        self.assert_changed(1, "\n" + good)
        self.assert_changed(4, good + "\n")
        self.assert_changed(1, "\n")

    def test_checksums(self):
        good = journal_of("a 1 0 0", "b 1 1 0", "a 2 2 0")
        for line, content in enumerate(good.split("\n")[:-1], start=1):
            entry, end = content.rsplit(" ", 1)
            for other in (str(int(end) + 1), str(int(end) - 1), "0" + end, "-" + end, "+" + end, end + " ", " " + end,
                          "", "x", end + "0", str(int(end) + 65521), end[:-1], "1", "0", end + ".0", end + "\r"):
                self.assert_changed(line, good.replace(content, f"{entry} {other}"))
            self.assert_changed(line, good.replace(content, entry))
            # The checksum of the line alone, as if it were the first one.
            if line > 1:
                self.assert_changed(line, good.replace(content, f"{entry} {checksum_of(entry)}"))

    def test_lines_that_are_left_out_twice_or_exchanged(self):
        lines = journal_of("a 1 0 0", "b 1 1 0", "a 2 2 0").split("\n")[:-1]
        first, second, third = [line + "\n" for line in lines]
        self.assert_changed(1, second + third)
        self.assert_changed(2, first + third)
        self.assert_changed(2, first + first + second)
        self.assert_changed(1, second + first + third)
        self.assert_changed(2, first + third + second)

    def test_a_checksum_of_more_than_four_digits_and_of_less(self):
        # Among these are checksums with one digit to five.
        entries = [f"{name} {number} 0 0" for name in NAMES for number in range(-9000, 9000)]
        lengths = {}
        for entry in entries:
            lengths.setdefault(len(str(checksum_of(entry))), entry)
        self.assertGreaterEqual(set(lengths), {2, 3, 4, 5})
        for entry in lengths.values():
            self.assertEqual(replay(ALL, journal_of(entry)).journal(), journal_of(entry))

    def test_lines_that_are_no_parcels(self):
        # The checksums of all of these are right.
        for entry in ("", " ", "a", "a 1", "a 1 0", "a 1 0 0 0", "c 1 0 0", " a 1 0 0", "a  1 0 0", "a 1 0 0 ",
                      "a 1\t0 0", "A 1 0 0", "a x 0 0", "a 1 x 0", "a 1 0 x", "a 1 0 -", "a - 0 0", "a  0 0", "1 1 0 0",
                      "a 01 0 0", "a 00 0 0", "a -0 0 0", "a -01 0 0", "a +1 0 0", "a --1 0 0", "a 1- 0 0", "a 1.0 0 0",
                      "a 1_0 0 0", "a 1000001 0 0", "a -1000001 0 0", "a 1 1001 0", "a 1 0 1001", "a 1 -1 0",
                      "a 1 0 -1", "a 1 -0 0", "a 1 0 -0", "a 1 00 0", "a 1 0 00", "a 1 01 0", "a 1 0 01", "a 1 +0 0",
                      "a \u0661 0 0", "a \u00b2 0 0", "a \uff11 0 0", "a 1 0 \u0660", "\u00e4 1 0 0", "a 1 0 0\r",
                      "a 1,0,0", "a True 0 0", "a 1 0 0\u2028", "a 1e1 0 0", "a 0x1 0 0", "a " + "1" * 5000 + " 0 0",
                      "a -" + "9" * 5000 + " 0 0", "a 1 " + "0" * 5000 + " 0", "a 10000000 0 0", "-a 1 0 0",
                      "a 1 0 10000"):
            self.assert_changed(1, journal_of(entry))
            self.assert_changed(2, journal_of("a 1 0 0", entry, "a 1 0 0"))

    def test_names_of_the_promise(self):
        text = journal_of("a 1 0 0", "b 1 0 0")
        only_a = Promise(["a"], all_items(["a"]))
        self.assert_changed(2, text, only_a)
        self.assert_changed(1, journal_of("c 1 0 0"))

    def test_one_character_changed(self):
        text = journal_of("a 1 0 0", "b -12 1 0", "a 2 2 0")
        dice = Dice(1)
        for at in range(len(text)):
            other = dice.choose([sign for sign in "ab 019-\nx" if sign != text[at]])
            changed = text[:at] + other + text[at + 1:]
            line = text[:at].count("\n") + 1
            if line == 3 and text[at] == "\n":
                self.assertEqual(len(replay(ALL, changed).passed()), 2)
            else:
                self.assert_changed(line, changed)

    def test_later_parcels_do_not_change_the_text(self):
        text = journal_of("a 1 0 0")
        receiver = replay(ALL, text)
        journal = receiver.journal()
        receiver.come(("b", 1, 1, 0))
        self.assertEqual(journal, text)
        self.assertEqual(receiver.journal(), journal_of("a 1 0 0", "b 1 1 0"))
        self.assertEqual(replay(ALL, text).passed(), [("a", 1)])

    def test_defined_here(self):
        self.assertEqual(replay.__module__, "orderneed.parcels")


if __name__ == "__main__":
    unittest.main()
