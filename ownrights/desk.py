"""A desk: a live store that is told what to do, and asked, by strings."""

from ownrights.errors import InvalidRow, InvalidText
from ownrights.eventreadings import read_event, read_log
from ownrights.eventtexts import event_line, rights_text
from ownrights.kinds import is_name
from ownrights.services import Service
from ownrights.storetexts import sum_text, sums_text


def _joined(words):
    """Several answers, or - for none."""
    return " ".join(words) if words else "-"


def _undo_text(service):
    return event_line(service.undo())


def _count_text(service):
    return str(len(service))


def _log_text(service):
    return str(service)


def _whole_text(service):
    return sum_text(service.whole)


def _sums_text(service):
    return _joined([sum_text(one) for one in service.sums])


def _family_text(service):
    return rights_text(service.family)


def _changes_text(service):
    return _joined([str(many) for many in service.changes])


def _letters_text(service):
    return str(len(service.letters))


def _open_text(service):
    return _joined([f"{hand}.{deed}" for hand, deed in service.open_deeds()])


def _full_text(service):
    return "yes" if service.is_full() else "no"


def _table_text(service):
    return " / ".join(service.table())


def _right_text(service, hand):
    return sums_text(service[hand])


def _copy_text(service, hand):
    return sum_text(service.copy_of(hand))


def _room_text(service, hand):
    return sums_text(service.room(hand))


def _spare_text(service, hand):
    return sums_text(service.spare(hand))


def _sure_text(service, hand):
    return str(service.sure(hand))


def _groups_text(service, hand, deed):
    return _joined([",".join(group) for group in service.groups_for(hand, deed)])


# What rows of one word are answered.
PLAIN_ROWS = {
    "undo": _undo_text,
    "count": _count_text,
    "log": _log_text,
    "whole": _whole_text,
    "sums": _sums_text,
    "family": _family_text,
    "changes": _changes_text,
    "letters": _letters_text,
    "open": _open_text,
    "full": _full_text,
    "table": _table_text,
}
# What rows with a hand behind the word are answered.
HAND_ROWS = {
    "right": _right_text,
    "copy": _copy_text,
    "room": _room_text,
    "spare": _spare_text,
    "sure": _sure_text,
}


def _answer_text(word, answer):
    """What is written of the answer to an event with this word."""
    if word in ("do", "hear"):
        return sum_text(answer)
    if word in ("tell", "give"):
        return str(answer)
    if word == "meet":
        return rights_text(answer)
    return ",".join(answer) if word == "ask" else "ok"


def _first_in(row):
    """The first element of a log if the lines of a row write this and nothing else, or None."""
    try:
        log = read_log(row.split("\n"))
    except InvalidText:
        return None
    return log[0] if len(log) == 1 else None


def _event_in(row):
    """The event that a row writes, or None."""
    try:
        return read_event(row)
    except InvalidText:
        return None


class Desk:
    """A desk. At first it has no service."""

    def __init__(self):
        self._service = None
        # How many calls of say were begun, and how many are over, also by an error.
        self._started = 0
        self._finished = 0

    def say(self, row):
        """The answer to any string; InvalidRow if it is not possible, then the errors of the service."""
        self._started += 1
        finished = self._finished + 1
        try:
            return self._answer(row)
        finally:
            self._finished = finished

    def counts(self):
        """The numbers of started and of finished calls of say."""
        return (self._started, self._finished)

    def _answer(self, row):
        """What say returns."""
        first = _first_in(row)
        if first is not None:
            _, store, start, family = first
            self._service = Service(store, start, family)
            return "ok"
        if self._service is None:
            raise InvalidRow(row)
        event = _event_in(row)
        if event is not None:
            return _answer_text(event[0], self._service.go(event))
        return self._other_answer(row)

    def _other_answer(self, row):
        """The answer to a row that writes neither a service nor an event."""
        words = row.split(" ")
        if len(words) == 1 and words[0] in PLAIN_ROWS:
            plain = PLAIN_ROWS[words[0]]
            return plain(self._service)
        if len(words) == 2 and words[0] in HAND_ROWS and is_name(words[1]):
            of_hand = HAND_ROWS[words[0]]
            return of_hand(self._service, words[1])
        if len(words) == 3 and words[0] == "groups" and is_name(words[1]) and is_name(words[2]):
            return _groups_text(self._service, words[1], words[2])
        raise InvalidRow(row)
