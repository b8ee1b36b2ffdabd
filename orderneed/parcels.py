"""Senders and receivers (points 28 to 35)."""

from orderneed.errors import Full, InvalidKept, InvalidParcel, UnknownName
from orderneed.journals import is_parcel, read_journal, write_journal
from orderneed.messages import is_row
from orderneed.promises import keeps

MOST_MESSAGES = 200
MOST_PARCELS = 300


class Sender:
    """Gives to each message the numbers by which a receiver keeps a promise."""

    def __init__(self, promise):
        self.promise = promise
        self.parcels = []

    @property
    def sent_count(self):
        """Return the number of messages sent."""
        return len(self.parcels)

    def send(self, message):
        """Return the parcel of a message."""
        name, number = message
        if name not in self.promise.names:
            raise UnknownName(name)
        if len(self.parcels) == MOST_MESSAGES:
            raise Full(f"the sender has sent {MOST_MESSAGES} messages")
        ahead = _count_kept(self.promise, self.parcels, message)
        again = len([parcel for parcel in self.parcels if parcel[:3] == (name, number, ahead)])
        parcel = (name, number, ahead, again)
        self.parcels.append(parcel)
        return parcel


class Receiver:
    """Lets parcels pass in an order that a promise allows."""

    def __init__(self, promise):
        self.promise = promise
        # All parcels that came, those of them that passed, and those that wait, each of these with the number
        # of passed ones that the promise keeps in order with it.
        self.arrivals = []
        self.through = []
        self.waiting = []

    def come(self, parcel):
        """Return what happens to a parcel, and the list of the messages that pass now, in order."""
        if not is_parcel(parcel, self.promise.names):
            raise InvalidParcel("not a parcel with a name of the promise")
        if len(self.arrivals) == MOST_PARCELS:
            raise Full(f"{MOST_PARCELS} parcels came to the receiver")
        arrival = tuple(parcel)
        self.arrivals.append(arrival)
        if arrival in self.through or arrival in self.waiting_parcels():
            return "dropped", []
        before = _count_kept(self.promise, self.through, arrival)
        self.waiting.append((arrival, before))
        word = "passes" if before == arrival[2] else "waits"
        return word, self.let_pass()

    def passed(self):
        """Return the list of the messages that passed, in order."""
        return [parcel[:2] for parcel in self.through]

    def missing(self):
        """Return the list of the parcels that wait, in order, each with the number that is missing."""
        return [(parcel, max(parcel[2] - before, 0)) for parcel, before in self.waiting]

    def kept(self):
        """Return the list of the parcels that passed, and the list of those that wait."""
        return list(self.through), self.waiting_parcels()

    def journal(self):
        """Return a line for each parcel that came."""
        return write_journal(self.arrivals)

    def waiting_parcels(self):
        return [parcel for parcel, _ in self.waiting]

    def let_pass(self):
        """Let waiting parcels pass until none can, and return their messages."""
        messages = []
        ready = self.first_ready()
        while ready is not None:
            self.move_through(ready)
            messages.append(ready[:2])
            ready = self.first_ready()
        return messages

    def first_ready(self):
        """Return the first waiting parcel that can pass, or None."""
        for parcel, before in self.waiting:
            if parcel[2] == before:
                return parcel
        return None

    def move_through(self, ready):
        self.through.append(ready)
        self.waiting = [(parcel, before + _count_kept(self.promise, [ready], parcel))
                        for parcel, before in self.waiting if parcel != ready]


def resume(promise, kept):
    """Return a receiver that has the parcels that a receiver kept."""
    if not _are_parcels(promise, kept):
        raise InvalidKept("not two lists of different parcels with names of the promise")
    through = [tuple(parcel) for parcel in kept[0]]
    waiting = [tuple(parcel) for parcel in kept[1]]
    receiver = Receiver(promise)
    receiver.through = through
    receiver.waiting = [(parcel, _count_kept(promise, through, parcel)) for parcel in waiting]
    if receiver.first_ready() is not None:
        raise InvalidKept("a waiting parcel can pass")
    return receiver


def replay(promise, text):
    """Return a new receiver to which the parcels of a journal came."""
    # All lines are read first, because a changed line is told ahead of one line too many.
    parcels = read_journal(text, promise.names)
    receiver = Receiver(promise)
    for parcel in parcels:
        receiver.come(parcel)
    return receiver


def _count_kept(promise, parcels, message):
    """Return the number of parcels whose messages a promise keeps in order with a message."""
    return len([parcel for parcel in parcels if keeps(promise, parcel, message)])


def _are_parcels(promise, kept):
    """Return whether a value is a row of two rows of different parcels, not too many."""
    if not is_row(kept) or len(kept) != 2 or not is_row(kept[0]) or not is_row(kept[1]):
        return False
    parcels = [*kept[0], *kept[1]]
    return (len(parcels) <= MOST_PARCELS and all([is_parcel(parcel, promise.names) for parcel in parcels])
            and len(set([tuple(parcel) for parcel in parcels])) == len(parcels))
