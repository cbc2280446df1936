"""Orders in which sources come, and the labels that grow old in them. Letters are left out here."""

from sourcelabels.basics import is_integer_from
from sourcelabels.errors import InvalidOrder
from sourcelabels.places import check_styled, needs_of, paths_of


def old_in(style, library, order):
    """The ascending list of the indexes of the sources that are old in an order."""
    check_styled(style, library)
    check_order(library, order)
    return old_by(leaders_of(style, library), order)


def fewest_old(style, library):
    """The least number of old sources in any order."""
    check_styled(style, library)
    leaders = leaders_of(style, library)
    return len(old_by(leaders, order_by(leaders)))


def good_order(style, library):
    """An order with as few old sources as possible."""
    check_styled(style, library)
    return order_by(leaders_of(style, library))


def check_order(library, value):
    """Raise InvalidOrder for any value that is no list of all indexes in which each one stands once."""
    if not isinstance(value, list) or not all([is_integer_from(index, 0) for index in value]):
        raise InvalidOrder()
    if sorted(value) != list(range(len(library))):
        raise InvalidOrder()


def leaders_of(style, library):
    """The list of the lists of the indexes of the sources that lead each source; none for a first label."""
    return [leaders_in(path, needs_of(path, library, index)) for index, path in enumerate(paths_of(style, library))]


def leaders_in(path, needs):
    """The list of the indexes of the sources each of which gives a source the label that all of them give it."""
    # Behind the last label come letters only, and these do not count.
    seen = [min(need, len(path) - 1) for need in needs]
    label = max(seen)
    return [index for index, at in enumerate(seen) if at == label] if label > 0 else []


def old_by(leaders, order):
    """The ascending list of the indexes of the sources that have leaders and come ahead of all of them."""
    ranks = {index: rank for rank, index in enumerate(order)}
    return [index for index, row in enumerate(leaders)
            if row != [] and ranks[index] < min([ranks[leader] for leader in row])]


def order_by(leaders):
    """An order in which as few sources as possible come ahead of all their leaders."""
    led = [[k for k, row in enumerate(leaders) if index in row] for index in range(len(leaders))]
    # A lot to which no source outside leads has fewer sources behind it than what it leads to. So a source that is
    # not reached yet when its turn comes is in such a lot, or its label is a first one.
    many = [len(reached([index], leaders)) for index in range(len(leaders))]
    order = []
    for _, start in sorted([(count, index) for index, count in enumerate(many)]):
        if start not in order:
            order = reached(order + [start], led)
    return order


def reached(starts, steps):
    """The list of the starts and, behind them, of all to which steps lead from them, over some others or straight."""
    found = list(starts)
    at = 0
    while at < len(found):
        found.extend([index for index in steps[found[at]] if index not in found])
        at += 1
    return found
