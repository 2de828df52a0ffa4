"""Least papers: what is handed on from the first rows of an image, and nothing else."""
from heapq import heappop, heappush

from lookalike.checker import is_checked
from lookalike.code import successors
from lookalike.handing import all_joined, handed_on, region_numbers, words_taken
from lookalike.meetings import code_regions
from lookalike.orders import joined_lots
from lookalike.papers import veil


class ThreadPaper:
    """The least entries and regions of a thread, as far as they are found."""

    def __init__(self, image, thread):
        widths, code = image[3][thread]
        self.image = image
        self.code = code
        self.entries = [None for _ in code]
        self.regions = [(begin, target, (), time, None, 0) for begin, target, time in code_regions(code)]
        self.begins = region_numbers(self.regions)
        # For each region the rows with an entry in it.
        self.inside = [[] for _ in self.regions]
        # The rows that hand on anew, the first one first.
        self.waiting = []
        self.is_waiting = [False for _ in code]
        self.put(0, ((), tuple([() for _ in widths]), (), None, 0))

    def wake(self, row):
        """Let a row hand on anew."""
        if not self.is_waiting[row]:
            self.is_waiting[row] = True
            heappush(self.waiting, row)

    def put(self, row, entry):
        """Put an entry at a row."""
        if self.entries[row] is None and entry[3] is not None:
            self.inside[entry[3]].append(row)
        self.entries[row] = entry
        self.wake(row)

    def spread(self):
        """Hand on until nothing is new; tell whether there is a least paper."""
        while self.waiting:
            row = heappop(self.waiting)
            self.is_waiting[row] = False
            if not self.hand_on(row):
                return False
        return True

    def hand_on(self, row):
        """Hand on from a row; tell whether what is there allows it."""
        entry = self.entries[row]
        instruction = self.code[row]
        if words_taken(instruction) > len(entry[0]):
            return False
        own = self.begins.get(row)
        if own is not None and not self.begin_region(own, entry):
            return False
        handed = handed_on(self.image, instruction, entry, self.regions, own)
        for target in successors(self.code, row):
            if not self.take_in(target, handed):
                return False
        return True

    def begin_region(self, number, entry):
        """Know a region by the entry at which it begins; tell whether it can be so."""
        stack, _, _, around, left = entry
        begin, target, lot, time, _, _ = self.regions[number]
        behind = 0 if around is None else left - 1 - time
        if behind < 0 or (around is not None and around >= number):
            return False
        new_lot = joined_lots(stack[-1], veil(self.regions, around))
        self.regions[number] = (begin, target, new_lot, time, around, behind)
        if new_lot != lot:
            for row in self.inside[number]:
                self.wake(row)
        return True

    def take_in(self, row, handed):
        """Let a row take in what is handed on; tell whether it can."""
        entry = self.entries[row]
        if entry is None:
            self.put(row, handed)
            return True
        if len(entry[0]) != len(handed[0]) or entry[3:] != handed[3:]:
            return False
        lots = (together(entry[0], handed[0]), together(entry[1], handed[1]), joined_lots(entry[2], handed[2]))
        if lots != entry[:3]:
            self.put(row, (*lots, *entry[3:]))
        return True

    def whole(self):
        """The entries, the regions, and the lot of the end."""
        ends = [row for row, part in enumerate(self.code) if part[0] == "end" and self.entries[row] is not None]
        end = all_joined([self.entries[row][2] for row in ends])
        return (tuple(self.entries), tuple(self.regions), end)


def together(lots, others):
    """These lots, each joined with the other one at its index."""
    if lots == others:
        return lots
    return tuple([lot if lot == other else joined_lots(lot, other) for lot, other in zip(lots, others)])


def least_paper(image):
    """The least paper of an image, None if there is none."""
    papers = [ThreadPaper(image, thread) for thread in range(len(image[3]))]
    if not all([paper.spread() for paper in papers]):
        return None
    return tuple([paper.whole() for paper in papers])


def is_harmless(image):
    """Whether an image has a least paper that is checked."""
    return is_checked(image, least_paper(image))
