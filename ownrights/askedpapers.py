"""Papers that show which deeds have to be asked for, and that fewer are not enough."""

from ownrights.clashing import clash_rows, fewest_asked


def _tree(rows, many, asked):
    """The tree for the keys asked, where many are asked at its ends; rows are those of all clashes."""
    if len(asked) == many:
        return None
    # Fewer keys than many are asked, so some clash is left.
    one, other, state = [row for row in rows if row[0] not in asked and row[1] not in asked][0]
    return (one, other, state, _tree(rows, many, (*asked, one)), _tree(rows, many, (*asked, other)))


def asked_paper(store):
    """An asked paper of a store."""
    asked = fewest_asked(store)[0]
    return (asked, _tree(clash_rows(store), len(asked), ()))
