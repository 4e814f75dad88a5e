"""Events by kind; events and logs, written as lines."""

from ownrights.kinds import is_long_right, is_name, is_names, is_number, is_tuple, is_tuple_of
from ownrights.storetexts import store_text, sum_text, sums_text

# What stands behind the word of each event: rights are as many as the hands before them.
EVENT_FIELDS = {
    "do": ("hand", "deed"),
    "ask": ("hand", "deed"),
    "tell": ("hand",),
    "hear": ("hand", "number"),
    "take": ("hand", "number"),
    "meet": ("hands",),
    "exchange": ("hands", "rights"),
    "give": ("hand", "hand", "right", "right"),
    "giveup": ("hand", "right"),
}


def _is_field(field, value, before):
    """Whether any value is of the kind that stands in a field of an event, behind the value of the field before."""
    if field == "number":
        return is_number(value)
    if field == "hands":
        return is_names(value)
    if field == "right":
        return is_long_right(value)
    if field == "rights":
        return is_tuple(value, len(before)) and is_tuple_of(value, is_long_right)
    return is_name(value)


def is_event(thing):
    """Whether any value is an event by kind."""
    if not isinstance(thing, tuple) or thing == () or not isinstance(thing[0], str):
        return False
    fields = EVENT_FIELDS.get(thing[0])
    if fields is None or len(thing) != 1 + len(fields):
        return False
    for at, field in enumerate(fields):
        # The length of what stands before is asked for only where it is a set of hands.
        if not _is_field(field, thing[at + 1], thing[at]):
            return False
    return True


def rights_text(rights):
    """The words of some rights."""
    return " ".join([sums_text(right) for right in rights])


def _field_text(field, value):
    """The words of what stands in a field of an event."""
    if field == "number":
        return str(value)
    if field == "hands":
        return ",".join(value)
    if field == "right":
        return sums_text(value)
    if field == "rights":
        return rights_text(value)
    return value


def event_line(event):
    """The line of an event by kind."""
    word, *values = event
    return " ".join([word, *[_field_text(field, value) for field, value in zip(EVENT_FIELDS[word], values)]])


def log_lines(log):
    """The list of the lines of a log."""
    first, *events = log
    _, store, start, family = first
    store_lines = store_text(store).split("\n")
    lines = [f"service {len(store_lines)}"]
    lines.extend(store_lines)
    lines.append(f"start {sum_text(start)}")
    lines.append(f"family {rights_text(family)}")
    lines.extend([event_line(event) for event in events])
    return lines
