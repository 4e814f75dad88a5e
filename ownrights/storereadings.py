"""Expressions, sums, sets of sums and stores, read from texts."""

from ownrights.conditions import COUNT_WORDS, LENGTHS, RULE_WORDS, inner_words
from ownrights.errors import InvalidText
from ownrights.kinds import is_integer, is_name, is_sums

DIGITS = "0123456789"
MOST_DIGITS = 60
# Within how many other parts a part may stand.
DEEPEST = 30
# The words with which a line of a store may begin behind a line that begins with the key, "" before all lines.
HEADS_BEHIND = {
    "": ("item",),
    "item": ("item", "rule", "hand"),
    "rule": ("rule", "hand"),
    "hand": ("hand", "deed"),
    "deed": ("hand", "deed"),
}
LAST_HEADS = ("hand", "deed")


def name_in(word):
    """The name that a word writes, or None."""
    return word if is_name(word) else None


def number_in(word):
    """The number that a word writes, or None."""
    if not 1 <= len(word) <= MOST_DIGITS or any([digit not in DIGITS for digit in word]):
        return None
    if word[0] == "0" and word != "0":
        return None
    return int(word)


def integer_in(word):
    """The integer that a word writes, or None."""
    if not word.startswith("-"):
        return number_in(word)
    number = number_in(word[1:])
    if number is None or number == 0:
        return None
    return -number


def sum_in(word):
    """The nonempty tuple of integers that a word writes, or None."""
    numbers = [integer_in(part) for part in word.split(",")]
    return None if None in numbers else tuple(numbers)


def sums_in(word):
    """The set of sums of equal length that a word writes, or None."""
    if word == "-":
        return ()
    sums = tuple([sum_in(part) for part in word.split(";")])
    if None in sums or not is_sums(sums, len(sums[0])):
        return None
    return sums


class Words:
    """The words of one line, taken one after the other; InvalidText for the first one that is not possible."""

    def __init__(self, text, line, field):
        self.words = text.split(" ")
        self.line = line
        self.field = field
        self.taken = 0

    def left(self):
        """How many words are not taken yet."""
        return len(self.words) - self.taken

    def refuse(self):
        """Raise InvalidText for the next word, be it not possible or missing."""
        raise InvalidText(self.line, self.field + self.taken)

    def pick(self, meaning):
        """The meaning of the next word: a function gives it for the word, or None if the word is not possible."""
        if self.left() == 0:
            self.refuse()
        value = meaning(self.words[self.taken])
        if value is None:
            self.refuse()
        self.taken += 1
        return value

    def pick_one_of(self, choices):
        """The next word, which has to be one of the choices."""
        return self.pick(lambda word: word if word in choices else None)

    def end(self):
        """Make sure that there are no further words."""
        if self.left() > 0:
            self.refuse()


def _take_part(words, choices, depth):
    """The next part of an expression, of the kind or the kinds with these words, that stands within depth others."""
    if depth > DEEPEST:
        words.refuse()
    head = words.pick(lambda word: _head_in(word, choices))
    if is_integer(head):
        return head
    if head == "item":
        return (head, words.pick(name_in))
    part = [head]
    for _ in range(LENGTHS[head] - 1):
        part.append(_take_part(words, inner_words(head), depth + 1))
    return tuple(part)


def _head_in(word, choices):
    """The integer, or the word of the choices, with which a part begins, or None."""
    if word in choices:
        return word
    return integer_in(word) if "item" in choices else None


def expression_read(text, *, line=0, field=0):
    """The number or the condition that any string writes."""
    words = Words(text, line, field)
    expression = _take_part(words, COUNT_WORDS + RULE_WORDS, 0)
    words.end()
    return expression


def sum_read(text, *, line=0, field=0):
    """The nonempty tuple of integers that any string writes."""
    words = Words(text, line, field)
    one = words.pick(sum_in)
    words.end()
    return one


def sums_read(text, *, line=0, field=0):
    """The set of sums of equal length that any string writes."""
    words = Words(text, line, field)
    sums = words.pick(sums_in)
    words.end()
    return sums


def _take_row(head, words, items, rules, hands):
    """Take the words of a line of a store behind its first one, and put what they write where it belongs."""
    if head == "item":
        items.append((words.pick(name_in), words.pick(integer_in), words.pick(integer_in)))
    elif head == "rule":
        rules.append(_take_part(words, RULE_WORDS, 0))
    elif head == "hand":
        hands.append((words.pick(name_in), []))
    else:
        hands[-1][1].append((words.pick(name_in), words.pick(sum_in)))
    words.end()


def store_read(text, *, line=0):
    """The tuple of the shape of a store that any string writes."""
    items = []
    rules = []
    hands = []
    head = ""
    rows = text.split("\n")
    for at, row in enumerate(rows):
        words = Words(row, line + at, 0)
        head = words.pick_one_of(HEADS_BEHIND[head])
        _take_row(head, words, items, rules, hands)
    if head not in LAST_HEADS:
        raise InvalidText(line + len(rows), 0)
    return (tuple(items), tuple(rules), tuple([(hand, tuple(deeds)) for hand, deeds in hands]))
