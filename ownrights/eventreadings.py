"""Events and logs, read from lines."""

from ownrights.errors import InvalidText
from ownrights.eventtexts import EVENT_FIELDS
from ownrights.kinds import is_names
from ownrights.storereadings import Words, name_in, number_in, store_read, sum_in, sums_in

FEWEST_LINES = 2


def names_in(word):
    """The nonempty set of names that a word writes, or None."""
    names = tuple(word.split(","))
    return names if is_names(names) else None


def right_in(word):
    """The right that a word writes, or None."""
    sums = sums_in(word)
    return None if sums == () else sums


def _lines_in(word):
    """The number of the lines of a store that a word writes, or None."""
    number = number_in(word)
    return None if number is None or number < FEWEST_LINES else number


def _take_field(words, field, values):
    """What the next words write in a field of an event, behind the values before it."""
    if field == "number":
        return words.pick(number_in)
    if field == "hands":
        return words.pick(names_in)
    if field == "right":
        return words.pick(right_in)
    if field == "rights":
        return tuple([words.pick(right_in) for _ in values[-1]])
    return words.pick(name_in)


def _take_event(words):
    """The event that all words of a line write."""
    values = [words.pick_one_of(list(EVENT_FIELDS))]
    for field in EVENT_FIELDS[values[0]]:
        values.append(_take_field(words, field, values))
    words.end()
    return tuple(values)


def read_event(text):
    """The event that any string writes."""
    return _take_event(Words(text, 0, 0))


def _words_at(lines, at):
    """The words of the line at a place; InvalidText if it is missing."""
    if at >= len(lines):
        raise InvalidText(len(lines), 0)
    return Words(lines[at], at, 0)


def _take_line(words, head, meaning):
    """What the one word behind the first one, head, of a line writes."""
    words.pick_one_of((head,))
    value = words.pick(meaning)
    words.end()
    return value


def _take_family(words):
    """The tuple of rights that a line writes behind its first word."""
    words.pick_one_of(("family",))
    rights = [words.pick(right_in)]
    while words.left() > 0:
        rights.append(words.pick(right_in))
    return tuple(rights)


def read_log(lines):
    """The log that a list of strings without newlines writes."""
    many = _take_line(_words_at(lines, 0), "service", _lines_in)
    # If some of these lines are missing, what is there is looked at first.
    store = store_read("\n".join(lines[1:1 + many]), line=1)
    start = _take_line(_words_at(lines, 1 + many), "start", sum_in)
    family = _take_family(_words_at(lines, 2 + many))
    events = [_take_event(Words(lines[at], at, 0)) for at in range(3 + many, len(lines))]
    return (("service", store, start, family), *events)
