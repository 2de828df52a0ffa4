"""Orders of levels, and lots of levels."""
from lookalike.errors import InvalidOrder
from lookalike.kinds import is_ascending, is_integer, is_number, is_sequence, is_tuple_of

MOST_LEVELS = 12


def is_level(levels, value):
    """Whether any value is one of so many levels."""
    return is_number(value) and value < levels


def is_lot(order, value):
    """Whether any value is an ascending tuple of levels of the order."""
    if not isinstance(value, tuple):
        return False
    return all(is_level(len(order), level) for level in value) and is_ascending(value)


def is_order(value):
    """Whether any value is an order."""
    if not isinstance(value, tuple) or not 1 <= len(value) <= MOST_LEVELS:
        return False
    if not all(is_lot(value, below) for below in value):
        return False
    return all(is_level_right(value, level) for level in range(len(value)))


def is_level_right(order, level):
    """Whether what is within this level is as in an order."""
    below = order[level]
    if level not in below:
        return False
    for low in below:
        if low != level and level in order[low]:
            return False
        if any(lowest not in below for lowest in order[low]):
            return False
    return True


def check_relations(levels, pairs):
    """Raise an error unless these are a number of levels, and pairs of them."""
    if not is_integer(levels) or not 1 <= levels <= MOST_LEVELS:
        raise InvalidOrder(0)
    if not is_sequence(pairs):
        raise InvalidOrder(1)
    for pair in pairs:
        if not is_tuple_of(pair, 2) or not all(is_level(levels, level) for level in pair):
            raise InvalidOrder(1)


def relations_of(levels, pairs):
    """For each level the list that tells of each level whether it is within by the pairs alone."""
    below = [[low == high for low in range(levels)] for high in range(levels)]
    for low, high in pairs:
        below[high][low] = True
    for middle in range(levels):
        for high in range(levels):
            if below[high][middle]:
                below[high] = [one or other for one, other in zip(below[high], below[middle])]
    return below


def order_of(levels, pairs):
    """The order with so many levels and the fewest relations by which each pair's first is within its second."""
    check_relations(levels, pairs)
    below = relations_of(levels, pairs)
    order = []
    for level in range(levels):
        lows = tuple([low for low in range(levels) if below[level][low]])
        if any(below[low][level] for low in lows if low != level):
            raise InvalidOrder(2)
        order.append(lows)
    return tuple(order)


def ring_of(levels, pairs):
    """None, or a ring of two or more unlike levels that lead by the pairs from each to the next."""
    check_relations(levels, pairs)
    nexts = [[] for _ in range(levels)]
    for low, high in pairs:
        if low != high and high not in nexts[low]:
            nexts[low].append(high)
    for level in range(levels):
        ring = ring_from(nexts, level)
        if ring is not None:
            return ring
    return None


def ring_from(nexts, start):
    """None, or a ring with as few levels as any through this one, which stands first."""
    reached = {start: True}
    ways = [(start,)]
    while ways:
        longer = []
        for way in ways:
            for level in nexts[way[-1]]:
                if level == start:
                    return way
                if level not in reached:
                    reached[level] = True
                    longer.append((*way, level))
        ways = longer
    return None


def lot_within(order, lot, level):
    """Whether all levels of the lot are within this one."""
    return all(low in order[level] for low in lot)


def joined_lots(one, other):
    """The lot of all levels of both."""
    return tuple(sorted(set(one) | set(other)))


def watchers(order, lot):
    """The levels that the lot is within."""
    return tuple([level for level in range(len(order)) if lot_within(order, lot, level)])


def covered(order, one, other):
    """Whether each level that the second lot is within has the first one within it, too."""
    return all(lot_within(order, one, level) for level in watchers(order, other))
