"""A live store: deeds, letters, meetings, exchanges and gifts, one event after the other."""

from ownrights.adding import added, zero_sum
from ownrights.asking import least_groups
from ownrights.balls import sure_number
from ownrights.deeds import all_keys, deed_rows, hand_names, place_of
from ownrights.errors import InvalidFamily, InvalidSums, NothingToUndo, RightError
from ownrights.eventtexts import event_line
from ownrights.families import is_greatest, is_safe, rest_of
from ownrights.giving import reach
from ownrights.kinds import is_sum
from ownrights.moments import behind_in, copy_in, first_moment, followed, sums_in
from ownrights.storechecker import lets_store


class Service:
    """A live store."""

    MOST = 40

    def __init__(self, store, start, family):
        lets_store(store)
        if not is_sum(start, len(store[0])):
            raise InvalidSums("start", -1)
        if not is_safe(store, start, family):
            raise InvalidFamily("unsafe", -1)
        for at, right in enumerate(family):
            if zero_sum(len(start)) not in right:
                raise InvalidFamily("zero", at)
        self._store = store
        self._start = start
        # What stands first in the log.
        self._first = ("service", store, start, family)
        self._now = first_moment(family)
        # The pairs of each event and the moment before it.
        self._past = []
        # How many operations were begun, and how many are over, also by an error.
        self._started = 0
        self._finished = 0

    @property
    def store(self):
        """The store."""
        return self._store

    @property
    def start(self):
        """The state at the beginning."""
        return self._start

    @property
    def family(self):
        """The present rights."""
        return self._now.rights

    @property
    def sums(self):
        """For each hand its sum."""
        return sums_in(self._now)

    @property
    def whole(self):
        """The state to which all deeds have led."""
        sums = sums_in(self._now)
        return added(self._start, *sums)

    @property
    def changes(self):
        """For each hand in how many changes it took part."""
        return self._now.turns

    @property
    def letters(self):
        """All letters, in order."""
        return self._now.mail

    def do(self, hand, deed):
        """Do a deed within the right; return the sum of the hand."""
        return self.go(("do", hand, deed))

    def ask(self, hand, deed):
        """Let the first group that suffices for a deed meet, and do it; return the group."""
        return self.go(("ask", hand, deed))

    def tell(self, hand):
        """Write a letter of what a hand knows; return its index."""
        return self.go(("tell", hand))

    def hear(self, hand, n):
        """Let a hand hear a letter; return the state of its copy."""
        return self.go(("hear", hand, n))

    def take(self, hand, n):
        """Let a hand take the right that a letter gives it."""
        return self.go(("take", hand, n))

    def meet(self, *hands):
        """Let some hands meet; return their rights."""
        return self.go(("meet", hands))

    def exchange(self, hands, rights):
        """Let some hands exchange rights."""
        return self.go(("exchange", hands, rights))

    def give(self, hand, heir, right, gift):
        """Let a hand keep a right, and write a letter that gives the heir another one; return its index."""
        return self.go(("give", hand, heir, right, gift))

    def give_up(self, hand, right):
        """Let a hand keep a part of its right."""
        return self.go(("giveup", hand, right))

    def follow(self, event):
        """Do any event without counting it, and return the answer."""
        answer, after = followed(self._store, self._start, self._now, event, len(self._past) >= Service.MOST)
        self._past.append((event, self._now))
        self._now = after
        return answer

    def go(self, event):
        """Do any event, and return the answer; InvalidEvent if it is not possible."""
        self._started += 1
        finished = self._finished + 1
        try:
            return self.follow(event)
        finally:
            self._finished = finished

    def __call__(self, event):
        return self.go(event)

    def __getitem__(self, at):
        return self._now.rights[place_of(self._store, at)]

    def __iter__(self):
        raise TypeError("a service is not iterated over")

    def __contains__(self, x):
        return x in self.open_deeds()

    def __len__(self):
        return len(self._past)

    def __eq__(self, other):
        return isinstance(other, Service) and self.log() == other.log()

    def __str__(self):
        lines = [event_line(event) for event, before in self._past]
        if not lines:
            return "-"
        return " / ".join(lines)

    def log(self):
        """The tuple of ("service", store, start, family) as at the beginning, and of the events."""
        events = [event for event, before in self._past]
        return (self._first, *events)

    def copy_of(self, hand):
        """The state of the copy of a hand; UnknownHand for any value that is none."""
        return copy_in(self._start, self._now, place_of(self._store, hand))

    def tried(self, *events):
        """The pair (family, sums) behind some events, which are not done; InvalidEvent for the first that cannot be."""
        now = self._now
        for many, event in enumerate(events, start=len(self._past)):
            answer, now = followed(self._store, self._start, now, event, many >= Service.MOST)
        return (now.rights, sums_in(now))

    def undo(self):
        """Take back the last event and return it; NothingToUndo if there is none."""
        self._started += 1
        finished = self._finished + 1
        try:
            if not self._past:
                raise NothingToUndo(0)
            event, before = self._past.pop()
            self._now = before
            return event
        finally:
            self._finished = finished

    def do_all(self, *events, keep=False):
        """Do some events and return their number; InvalidEvent for the first one that is not possible.

        All are taken back then, or, if keep is True, those before it stay done.
        """
        self._started += 1
        finished = self._finished + 1
        past = list(self._past)
        now = self._now
        try:
            for event in events:
                self.follow(event)
            return len(events)
        except RightError:
            if not keep:
                self._past = past
                self._now = now
            raise
        finally:
            self._finished = finished

    def counts(self):
        """The numbers of started and of finished operations."""
        return (self._started, self._finished)

    def table(self):
        """A list with a line for each hand: its name, the numbers of sums, deeds and changes, and its copy."""
        lines = []
        now = self._now
        total = self.whole
        for at, hand in enumerate(hand_names(self._store)):
            sums = len(now.rights[at])
            deeds = now.copies[at][at][0]
            word = "whole" if copy_in(self._start, now, at) == total else "-"
            lines.append(f"{hand:<8} {sums:>3} {deeds:>3} {now.turns[at]:>3} {word}")
        return lines

    def open_deeds(self):
        """The set of the keys of the deeds that lead to sums within the rights."""
        now = self._now
        rows = [(key, behind_in(self._store, now, key)) for key in all_keys(self._store)]
        return tuple([key for key, (at, behind) in rows if behind in now.rights[at]])

    def groups_for(self, hand, deed):
        """The least groups that suffice for a deed; UnknownHand, then UnknownDeed for any values that are none."""
        deed_rows(self._store, hand)
        return least_groups(self._store, self._start, self.family, self.sums, (hand, deed))

    def room(self, hand):
        """The rest of a hand; UnknownHand for any value that is none."""
        return rest_of(self._store, self._start, self.family, hand)

    def spare(self, hand):
        """The set of the sums in its right to which a hand cannot come; UnknownHand for any value that is none."""
        at = place_of(self._store, hand)
        right = self._now.rights[at]
        within = reach(self._store, right, self.sums[at], hand)
        return tuple([one for one in right if one not in within])

    def sure(self, hand, *, most=6):
        """How many deeds up to most a hand can surely do; UnknownHand for any value that is none."""
        at = place_of(self._store, hand)
        return sure_number(self._store, self._now.rights[at], self.sums[at], hand, most)

    def is_full(self):
        """Whether the family is greatest."""
        return is_greatest(self._store, self._start, self.family)
