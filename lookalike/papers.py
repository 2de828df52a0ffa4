"""Papers: what is claimed of the words and moments at the rows of an image."""
from lookalike.kinds import is_number, is_tuple_of
from lookalike.orders import is_lot


def is_paper(image, value):
    """Whether any value is a paper of an image."""
    if not is_tuple_of(value, len(image[3])):
        return False
    return all(is_thread_paper(image[0], thread, part) for thread, part in zip(image[3], value))


def is_thread_paper(order, thread, value):
    """Whether any value is entries, regions and a lot for a thread."""
    widths, code = thread
    if not is_tuple_of(value, 3):
        return False
    entries, regions, end = value
    if not is_tuple_of(entries, len(code)) or not are_regions(order, code, regions) or not is_lot(order, end):
        return False
    return all(entry is None or is_entry(order, widths, regions, entry) for entry in entries)


def are_lots(order, value):
    """Whether any value is a tuple of lots."""
    return isinstance(value, tuple) and all(is_lot(order, lot) for lot in value)


def is_entry(order, widths, regions, value):
    """Whether any value is an entry of a thread with locals of these widths, and with these regions."""
    if not is_tuple_of(value, 5):
        return False
    stack, places, clock, region, left = value
    if not are_lots(order, stack) or not are_lots(order, places) or not is_lot(order, clock) or not is_number(left):
        return False
    if len(places) != len(widths):
        return False
    if region is None:
        return left == 0
    return is_number(region) and region < len(regions) and left > 0


def are_regions(order, code, value):
    """Whether any value is a tuple of regions of a code, each beginning behind the one before."""
    if not isinstance(value, tuple):
        return False
    before = -1
    for number, region in enumerate(value):
        if not is_region(order, code, number, region) or region[0] <= before:
            return False
        before = region[0]
    return True


def is_region(order, code, number, value):
    """Whether any value is a region of a code that may have this number."""
    if not is_tuple_of(value, 6):
        return False
    begin, end, lot, time, around, behind = value
    if not is_number(begin) or begin >= len(code) or code[begin][0] != "else":
        return False
    if not is_number(end) or end >= len(code) or not is_lot(order, lot) or not is_number(time) or time == 0:
        return False
    if not is_number(behind):
        return False
    if around is None:
        return behind == 0
    return is_number(around) and around < number


def end_lots(paper):
    """The tuple of the lots of the ends of the threads."""
    return tuple([end for _, _, end in paper])


def landing(regions, number):
    """The pair of a region, or None, and what is left of it, with which the region with this number is left."""
    around, behind = regions[number][4:]
    while behind == 0 and around is not None:
        around, behind = regions[around][4:]
    return (around, behind)


def veil(regions, number):
    """The lot of a region, () for None."""
    return () if number is None else regions[number][2]
