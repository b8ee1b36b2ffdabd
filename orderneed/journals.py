"""Parcels, and the lines of a journal (points 33 to 35)."""

from orderneed.errors import Changed
from orderneed.messages import is_number, is_row, is_whole

GREATEST_COUNT = 1000
FIRST_CHECKSUM = 1
BASE = 256
MODULUS = 65521
DIGITS = "0123456789"
# The longest number of a parcel is -1000000.
MOST_DIGITS = 7


def is_parcel(value, names):
    """Return whether a value is a parcel with one of the names."""
    return (is_row(value) and len(value) == 4 and value[0] in names and is_number(value[1])
            and _is_count(value[2]) and _is_count(value[3]))


def write_journal(parcels):
    """Return the journal of parcels."""
    lines = []
    checksum = FIRST_CHECKSUM
    for parcel in parcels:
        entry = _entry(parcel)
        checksum = _checksum_after(checksum, entry)
        lines.append(f"{entry} {checksum}\n")
    return "".join(lines)


def read_journal(text, names):
    """Return the list of the parcels of the complete lines of a journal. Raises Changed."""
    parcels = []
    checksum = FIRST_CHECKSUM
    # What stands after the last newline is no line.
    for line, content in enumerate(text.split("\n")[:-1], start=1):
        entry, _, end = content.rpartition(" ")
        parcel = _read_entry(entry)
        checksum = _checksum_after(checksum, entry)
        if not is_parcel(parcel, names) or _entry(parcel) != entry or end != str(checksum):
            raise Changed(line)
        parcels.append(parcel)
    return parcels


def _is_count(value):
    return is_whole(value) and 0 <= value <= GREATEST_COUNT


def _entry(parcel):
    return " ".join([str(part) for part in parcel])


def _checksum_after(checksum, entry):
    for character in entry:
        checksum = (BASE * checksum + ord(character)) % MODULUS
    return checksum


def _read_entry(entry):
    """Return the name and the numbers of an entry, with None for each number that is none."""
    name, *parts = entry.split(" ")
    return (name, *[_read_number(part) for part in parts])


def _read_number(part):
    digits = part.removeprefix("-")
    # The length is looked at first, because Python does not read every long number.
    if not 1 <= len(digits) <= MOST_DIGITS or not all([character in DIGITS for character in digits]):
        return None
    return int(part)
