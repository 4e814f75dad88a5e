"""What holds in a live store between two events, and what each event does to it."""

from ownrights.adding import added, zero_sum
from ownrights.asking import group_rights, least_groups, of_group
from ownrights.deeds import deeds_of, hand_names, place_of, sum_of
from ownrights.errors import InvalidEvent
from ownrights.eventtexts import EVENT_FIELDS, is_event
from ownrights.exchanges import may_exchange
from ownrights.families import is_safe
from ownrights.giving import may_give
from ownrights.kinds import is_sums
from ownrights.rests import all_in


class Moment:
    """What holds in a live store between two events. It never changes: an event makes another one."""

    def __init__(self, rights, turns, copies, mail):
        # For each hand its right, and in how many changes it took part.
        self.rights = rights
        self.turns = turns
        # For each hand what it knows: of each hand (number of deeds, sum). Of itself it always knows both.
        self.copies = copies
        self.mail = mail


def first_moment(family):
    """The moment before all events."""
    many = len(family)
    rows = ((0, zero_sum(len(family[0][0]))),) * many
    return Moment(family, (0,) * many, (rows,) * many, ())


def sums_in(now):
    """For each hand its sum."""
    return tuple([rows[at][1] for at, rows in enumerate(now.copies)])


def copy_in(start, now, at):
    """The state of the copy of the hand at a place."""
    known = [one for many, one in now.copies[at]]
    return added(start, *known)


def behind_in(store, now, key):
    """The place of the hand of a key, and the sum of this hand behind the deed."""
    at = place_of(store, key[0])
    return (at, added(now.copies[at][at][1], sum_of(store, key)))


def _told(now, places, rows):
    """The moment in which the hands at some places know these rows."""
    copies = tuple([rows if at in places else known for at, known in enumerate(now.copies)])
    return Moment(now.rights, now.turns, copies, now.mail)


def _stepped(now, at, behind):
    """The moment after a deed of the hand at a place, whose sum is behind then."""
    known = now.copies[at]
    rows = (*known[:at], (known[at][0] + 1, behind), *known[at + 1:])
    return _told(now, (at,), rows)


def _changed(now, given):
    """The moment after a change for some hands: given has the right of each of them, by its place."""
    rights = tuple([given.get(at, right) for at, right in enumerate(now.rights)])
    turns = tuple([many + 1 if at in given else many for at, many in enumerate(now.turns)])
    return Moment(rights, turns, now.copies, now.mail)


def _with_letter(now, letter):
    """The moment in which there is one letter more."""
    return Moment(now.rights, now.turns, now.copies, (*now.mail, letter))


def _gathered(store, now, group, rights):
    """The moment in which a group has heard all that one of it knew, and has these rights, in order."""
    places = [place_of(store, hand) for hand in group]
    # Who knows more deeds of a hand knows its later sum; of as many deeds all know the same.
    rows = tuple([max([now.copies[at][other] for at in places]) for other in range(len(now.copies))])
    return _changed(_told(now, places, rows), dict(zip(places, rights)))


def _letter_at(now, event, word):
    """The letter that an event means, if it begins with this word; InvalidEvent if there is none."""
    number = event[2]
    if number >= len(now.mail) or now.mail[number][0] != word:
        raise InvalidEvent(event, "letter")
    return now.mail[number]


def _check_rights(start, event, rights):
    """Raise InvalidEvent if the sums of some right by kind have not an integer for each item."""
    if not all([is_sums(right, len(start)) for right in rights]):
        raise InvalidEvent(event, "rights")


def _do(store, start, now, event):
    """A deed within the right."""
    at, behind = behind_in(store, now, event[1:])
    if behind not in now.rights[at]:
        raise InvalidEvent(event, "right")
    return (behind, _stepped(now, at, behind))


def _ask(store, start, now, event):
    """A deed for which the first group that suffices meets."""
    key = event[1:]
    at, behind = behind_in(store, now, key)
    if behind in now.rights[at]:
        raise InvalidEvent(event, "unasked")
    sums = sums_in(now)
    groups = least_groups(store, start, now.rights, sums, key)
    if not groups:
        raise InvalidEvent(event, "none")
    rights = group_rights(store, start, now.rights, sums, groups[0], key=key)
    return (groups[0], _stepped(_gathered(store, now, groups[0], rights), at, behind))


def _tell(store, start, now, event):
    """A letter that tells what a hand knows."""
    _, hand = event
    letter = ("told", hand, now.copies[place_of(store, hand)])
    return (len(now.mail), _with_letter(now, letter))


def _hear(store, start, now, event):
    """A letter that is heard."""
    rows = _letter_at(now, event, "told")[2]
    at = place_of(store, event[1])
    known = tuple([max(own, told) for own, told in zip(now.copies[at], rows)])
    after = _told(now, (at,), known)
    return (copy_in(start, after, at), after)


def _take(store, start, now, event):
    """A right that is taken from a letter."""
    _, giver, heir, gift, number = _letter_at(now, event, "gift")
    if heir != event[1]:
        raise InvalidEvent(event, "letter")
    at = place_of(store, heir)
    if now.turns[at] != number:
        raise InvalidEvent(event, "void")
    return ((), _changed(now, {at: gift}))


def _meet(store, start, now, event):
    """A meeting."""
    _, hands = event
    rights = group_rights(store, start, now.rights, sums_in(now), hands)
    return (rights, _gathered(store, now, hands, rights))


def _exchange(store, start, now, event):
    """An exchange."""
    _, hands, rights = event
    _check_rights(start, event, rights)
    if any([one not in right for one, right in zip(of_group(store, hands, sums_in(now)), rights)]):
        raise InvalidEvent(event, "sum")
    after = _gathered(store, now, hands, rights)
    if hands == hand_names(store):
        harmless = is_safe(store, start, after.rights)
    else:
        harmless = may_exchange(store, of_group(store, hands, now.rights), rights)
    if not harmless:
        raise InvalidEvent(event, "harm")
    return ((), after)


def _give(store, start, now, event):
    """A right that is given by a letter."""
    _, hand, heir, right, gift = event
    _check_rights(start, event, (right, gift))
    if heir == hand:
        raise InvalidEvent(event, "heir")
    at = place_of(store, hand)
    to = place_of(store, heir)
    if now.copies[at][at][1] not in right:
        raise InvalidEvent(event, "sum")
    if not may_give(store, now.rights[at], right, now.rights[to], gift):
        raise InvalidEvent(event, "harm")
    letter = ("gift", hand, heir, gift, now.turns[to])
    return (len(now.mail), _with_letter(_changed(now, {at: right}), letter))


def _giveup(store, start, now, event):
    """A part of a right that is given up."""
    _, hand, right = event
    _check_rights(start, event, (right,))
    at = place_of(store, hand)
    if now.copies[at][at][1] not in right:
        raise InvalidEvent(event, "sum")
    if not all_in(right, now.rights[at]):
        raise InvalidEvent(event, "harm")
    return ((), _changed(now, {at: right}))


# What each event does: it gives the pair (answer, moment behind it), or raises InvalidEvent.
DOINGS = {
    "do": _do,
    "ask": _ask,
    "tell": _tell,
    "hear": _hear,
    "take": _take,
    "meet": _meet,
    "exchange": _exchange,
    "give": _give,
    "giveup": _giveup,
}


def _check_names(store, event):
    """Raise InvalidEvent if an event by kind names a hand that is none, or a deed that is none of its hand."""
    names = hand_names(store)
    for field, value in zip(EVENT_FIELDS[event[0]], event[1:]):
        if (field == "hand" and value not in names) or (field == "hands" and not all_in(value, names)):
            raise InvalidEvent(event, "hand")
        if field == "deed" and value not in deeds_of(store, event[1]):
            raise InvalidEvent(event, "deed")


def followed(store, start, now, event, full):
    """The answer to any value as an event, and the moment behind it; InvalidEvent if it is not possible.

    full tells whether there are as many events as there may be.
    """
    if not is_event(event):
        raise InvalidEvent(event, "shape")
    if full:
        raise InvalidEvent(event, "full")
    _check_names(store, event)
    doing = DOINGS[event[0]]
    return doing(store, start, now, event)
