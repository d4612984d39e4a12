"""Trees of cases: that no liars are of at most so many people."""

from hushweb.kinds import check_number
from hushweb.openings import torn, unfit
from hushweb.webs import is_open

GREATEST_SIZE = 7


def checked_unfit(web, opening, sayings, size):
    """Return the unfit people, or raise the error that applies."""
    found = unfit(web, opening, sayings)
    check_number(size, 0, GREATEST_SIZE)
    return found


def uncovered(ties, chosen):
    """Return the list of those ties none of whose two people is chosen."""
    return [tie for tie in ties if not is_open(tie, chosen)]


def case_tree(web, opening, sayings, size):
    """Return any tree of cases, or None if there are liars of at most so many people."""
    chosen = checked_unfit(web, opening, sayings, size)
    if len(chosen) > size:
        return ()
    return tree_below(torn(web, opening), chosen, size - len(chosen))


def tree_below(ties, chosen, left):
    """Return any tree of cases for these torn ties and chosen people, with at least 0 left, or None."""
    found = uncovered(ties, chosen)
    if not found:
        return None
    tie = found[0]
    if left == 0:
        return (tie, None, None)
    first = tree_below(found, chosen + [tie[0]], left - 1)
    other = tree_below(found, chosen + [tie[1]], left - 1)
    return None if first is None or other is None else (tie, first, other)


def is_case_tree(web, opening, sayings, size, thing):
    """Return whether an object is a tree of cases."""
    chosen = checked_unfit(web, opening, sayings, size)
    if not isinstance(thing, tuple):
        return False
    if len(chosen) > size:
        return len(thing) == 0
    return is_tree_below(torn(web, opening), chosen, size - len(chosen), thing)


def is_tree_below(ties, chosen, left, thing):
    """Return whether an object is a tree of cases for these torn ties and chosen people, with at least 0 left."""
    if not isinstance(thing, tuple) or len(thing) != 3 or thing[0] not in uncovered(ties, chosen):
        return False
    tie, first, other = thing
    if left == 0:
        return first is None and other is None
    return (is_tree_below(ties, chosen + [tie[0]], left - 1, first)
            and is_tree_below(ties, chosen + [tie[1]], left - 1, other))
