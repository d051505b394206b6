"""Ways: the first right row, what is a right row, and how to come from one to another."""

from leanrow.errors import BadRow
from leanrow.webs import steps_by_letters


def is_borne(others, ahead):
    """Tell whether all of the others are among those that stand ahead."""
    return all(other in ahead for other in others)


def first_row(row):
    """The right row that has at each place, from the first one on, the least name that may stand there."""
    steps = steps_by_letters(row.names(), row.leanings())
    left = sorted(row.names())
    first = []
    while left:
        # Some thing may always stand next, as no leanings close a ring; so no choice here is a wrong one.
        least = [name for name in left if is_borne(steps[name], first)][0]
        left.remove(least)
        first.append(least)
    return first


def is_right(row, thing):
    """Tell of anything whether it is a list that tells a right row."""
    if type(thing) is not list:
        return False
    # Nothing but plain texts is compared: what is of another kind may answer in any way.
    if any([type(name) is not str for name in thing]) or sorted(thing) != sorted(row.names()):
        return False
    return all([thing.index(other) < thing.index(name) for name, other in row.leanings()])


def way_to(row, names):
    """The pairs of neighbours that change places, one by one, to make the row that one; no way is shorter."""
    if not is_right(row, names):
        raise BadRow("what is told is no right row")
    standing = row.names()
    way = []
    for at, name in enumerate(names):
        # Whatever the name passes comes behind it in the other row, so no two things ever change places twice.
        passed = standing[at:standing.index(name)]
        way.extend([(ahead, name) for ahead in passed[::-1]])
        standing.remove(name)
        standing.insert(at, name)
    return way
