"""Events and logs, written as lines."""

from ownrights.storetexts import store_text, sum_text, sums_text

# What stands behind the word of each event: rights are as many as the hands before them.
EVENT_FIELDS = {
    "do": ("hand", "deed"),
    "ask": ("hand", "deed"),
    "tell": ("hand",),
    "hear": ("hand", "number"),
    "take": ("hand", "number"),
    "meet": ("hands",),
    "exchange": ("hands", "rights"),
    "give": ("hand", "hand", "right", "right"),
    "giveup": ("hand", "right"),
}


def rights_text(rights):
    """The words of some rights."""
    return " ".join([sums_text(right) for right in rights])


def _field_text(field, value):
    """The words of what stands in a field of an event."""
    if field == "number":
        return str(value)
    if field == "hands":
        return ",".join(value)
    if field == "right":
        return sums_text(value)
    if field == "rights":
        return rights_text(value)
    return value


def event_line(event):
    """The line of an event by kind."""
    word, *values = event
    return " ".join([word, *[_field_text(field, value) for field, value in zip(EVENT_FIELDS[word], values)]])


def log_lines(log):
    """The list of the lines of a log."""
    first, *events = log
    _, store, start, family = first
    store_lines = store_text(store).split("\n")
    lines = [f"service {len(store_lines)}"]
    lines.extend(store_lines)
    lines.append(f"start {sum_text(start)}")
    lines.append(f"family {rights_text(family)}")
    lines.extend([event_line(event) for event in events])
    return lines
