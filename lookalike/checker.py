"""The checker: whether all that a paper claims is handed on from row to row."""
from lookalike.code import successors
from lookalike.errors import InvalidPaper
from lookalike.handing import all_joined, handed_on, region_numbers, taken_lots, words_taken
from lookalike.orders import lot_within, watchers
from lookalike.papers import is_paper, veil


class Covers:
    """Which lots of an order cover which; the watchers of each lot are told once."""

    def __init__(self, order):
        self.order = order
        self.known = {}

    def watching(self, lot):
        """The watchers of a lot, each as a bit."""
        if lot not in self.known:
            self.known[lot] = sum([1 << level for level in watchers(self.order, lot)])
        return self.known[lot]

    def covers(self, lot, other):
        """Whether the first lot covers the second one."""
        return lot == other or self.watching(lot) & ~self.watching(other) == 0

    def all_cover(self, lots, others):
        """Whether these lots cover as many other ones, one by one."""
        return lots == others or all(self.covers(lot, other) for lot, other in zip(lots, others))


class ThreadChecker:
    """Looks at the rows of a thread, one at a time."""

    def __init__(self, image, paper, thread):
        self.image = image
        self.code = image[3][thread][1]
        self.entries, self.regions, self.end = paper[thread]
        self.begins = region_numbers(self.regions)
        self.lots = Covers(image[0])

    def fault(self, row):
        """The first word that fits a row with an entry, or row 0; None if none does."""
        entry = self.entries[row]
        if self.is_entry_wrong(row, entry):
            return "entry"
        if words_taken(self.code[row]) > len(entry[0]):
            return "height"
        if self.is_flow_wrong(row, entry):
            return "flow"
        if self.is_region_wrong(row, entry):
            return "region"
        return "next" if self.is_next_wrong(row, entry) else None

    def is_entry_wrong(self, row, entry):
        """Whether the entry, or the row at which its region begins, is not as it has to be."""
        if row == 0 and (entry is None or len(entry[0]) > 0 or entry[3] is not None):
            return True
        return entry[3] is not None and self.entries[self.regions[entry[3]][0]] is None

    def is_flow_wrong(self, row, entry):
        """Whether something may be shown at a row to whom it is hidden."""
        instruction = self.code[row]
        word = instruction[0]
        stack, _, clock, region, _ = entry
        known = all_joined([*taken_lots(instruction, stack), veil(self.regions, region), clock])
        if word == "fill":
            return not self.lots.covers(self.image[1][instruction[1]][0], known)
        if word == "cells":
            return not self.lots.covers(self.image[2][instruction[1]][0], known)
        if word in ("out", "take"):
            return not lot_within(self.image[0], known, instruction[1])
        return word == "end" and (region is not None or not self.lots.covers(self.end, clock))

    def is_region_wrong(self, row, entry):
        """Whether an `else` begins a region that is not as it has to be, or chooses on a secret without one."""
        if self.code[row][0] != "else":
            return False
        stack, _, clock, region, left = entry
        over = veil(self.regions, region)
        own = self.begins.get(row)
        if own is None:
            return region is not None and not self.lots.covers(all_joined([clock, over]), stack[-1])
        _, target, lot, time, around, behind = self.regions[own]
        if around != region or not self.lots.covers(lot, all_joined([stack[-1], over])):
            return True
        if region is None:
            return False
        return left != 1 + time + behind or (behind == 0 and target != self.regions[region][1])

    def is_next_wrong(self, row, entry):
        """Whether some row that may come next does not take what is handed on."""
        own = self.begins.get(row)
        region, left = entry[3:]
        handed = handed_on(self.image, self.code[row], entry, self.regions, own)
        lands = own is None and left == 1
        for target in successors(self.code, row):
            if self.entries[target] is None or not self.takes(self.entries[target], handed):
                return True
            if lands and target != self.regions[region][1]:
                return True
        return False

    def takes(self, entry, handed):
        """Whether an entry takes what is handed on."""
        if len(entry[0]) != len(handed[0]) or entry[3:] != handed[3:]:
            return False
        if entry[3] is not None and entry[2] != handed[2]:
            return False
        if not self.lots.all_cover(entry[0], handed[0]) or not self.lots.all_cover(entry[1], handed[1]):
            return False
        return self.lots.covers(entry[2], handed[2])


def row_fault(image, paper, thread, row):
    """The first word of a fault of a row that has an entry, or of row 0; None if it has no fault."""
    return ThreadChecker(image, paper, thread).fault(row)


def paper_fault(image, paper):
    """None, or the first fault of any value, a paper: thread, row and word."""
    if not is_paper(image, paper):
        raise InvalidPaper(0)
    for thread, (entries, _, _) in enumerate(paper):
        checker = ThreadChecker(image, paper, thread)
        for row, entry in enumerate(entries):
            word = checker.fault(row) if row == 0 or entry is not None else None
            if word is not None:
                return (thread, row, word)
    return None


def is_checked(image, value):
    """Whether any value is a paper without a fault."""
    return is_paper(image, value) and paper_fault(image, value) is None
