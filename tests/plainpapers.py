"""Another way to check papers, to tell alike states, and to find least papers: word by word as chapters 13 to 15 tell it."""
from lookalike.papers import is_paper

TAKES = {"push": 0, "local": 0, "box": 0, "keep": 1, "fill": 1, "cell": 1, "cells": 2, "op": 2, "else": 1, "jump": 0, "out": 1,
         "take": 0, "rest": 0, "end": 0}


def covers(order, lot, other):
    """Whether each level that the first lot is within has the second one within it."""
    return all(set(other) <= set(below) for below in order if set(lot) <= set(below))


def nexts(code, row):
    word = code[row][0]
    return {"end": set(), "jump": {code[row][-1]}, "else": {code[row][-1], row + 1}}.get(word, {row + 1})


class PlainRow:
    """A row with its entry: its lots as sets, as in the letters of [54]."""

    def __init__(self, image, code, regions, row, entry):
        self.image, self.code, self.regions, self.row = image, code, regions, row
        self.act = code[row]
        self.stack = [set(lot) for lot in entry[0]]
        self.places = [set(lot) for lot in entry[1]]
        self.c, self.g, self.t = set(entry[2]), entry[3], entry[4]
        self.v = set() if self.g is None else set(regions[self.g][2])
        self.own = next((number for number, region in enumerate(regions) if region[0] == row), None)
        self.is_high = TAKES[self.act[0]] > len(self.stack)
        self.x = self.stack[-1] if TAKES[self.act[0]] > 0 and not self.is_high else set()
        self.y = self.stack[-2] if TAKES[self.act[0]] > 1 and not self.is_high else set()

    def land(self, number):
        around, behind = self.regions[number][4:]
        return (around, behind) if behind != 0 or around is None else self.land(around)

    def handed(self):
        word = self.act[0]
        stack = self.stack[:len(self.stack) - TAKES[word]]
        on = {"push": lambda: set(), "local": lambda: self.places[self.act[1]], "box": lambda: set(self.image[1][self.act[1]][0]),
              "cell": lambda: set(self.image[2][self.act[1]][0]) | self.x, "op": lambda: self.x | self.y,
              "take": lambda: {self.act[1]}}.get(word)
        if on is not None:
            stack = stack + [on() | self.v]
        places = list(self.places)
        if word == "keep":
            places[self.act[1]] = self.x | self.v
        if word == "else" and self.own is not None:
            region, left = self.own, self.regions[self.own][3]
        elif self.g is None:
            region, left = None, 0
        else:
            region, left = self.g, self.t - 1
        lands = region is not None and left == 0
        if lands:
            region, left = self.land(self.g)
        clock = self.c | self.x if word == "else" and self.own is None and self.g is None else self.c
        return stack, places, clock, region, left, lands


def plain_fault(image, paper, thread, row):
    """The first word that fits, or None."""
    order, boxes, rows, threads = image
    code = threads[thread][1]
    entries, regions, end = paper[thread]
    entry = entries[row]
    if row == 0 and (entry is None or entry[0] != () or entry[3] is not None):
        return "entry"
    if entry[3] is not None and entries[regions[entry[3]][0]] is None:
        return "entry"
    here = PlainRow(image, code, regions, row, entry)
    if here.is_high:
        return "height"
    word, x, y, v, c, g, t = here.act[0], here.x, here.y, here.v, here.c, here.g, here.t
    wrong = {
        "fill": lambda: not covers(order, boxes[here.act[1]][0], x | y | v | c),
        "cells": lambda: not covers(order, rows[here.act[1]][0], x | y | v | c),
        "out": lambda: not x | v | c <= set(order[here.act[1]]),
        "take": lambda: not v | c <= set(order[here.act[1]]),
        "end": lambda: g is not None or not covers(order, end, c),
    }
    if word in wrong and wrong[word]():
        return "flow"
    if word == "else":
        if here.own is None:
            if g is not None and not covers(order, c | v, x):
                return "region"
        else:
            _, to, lot, time, around, behind = regions[here.own]
            right = around == g and covers(order, lot, x | v)
            if g is not None:
                right = right and t == 1 + time + behind and (behind != 0 or to == regions[g][1])
            if not right:
                return "region"
    stack, places, clock, region, left, lands = here.handed()
    for target in nexts(code, row):
        entry = entries[target]
        if entry is None or len(entry[0]) != len(stack) or entry[3] != region or entry[4] != left:
            return "next"
        if not all(covers(order, one, other) for one, other in zip(entry[0] + entry[1] + entry[2:3], stack + places + [clock])):
            return "next"
        if region is not None and set(entry[2]) != clock:
            return "next"
        if lands and target != regions[g][1]:
            return "next"
    return None


def plain_faults(image, paper):
    """All faults of a paper."""
    assert is_paper(image, paper)
    return [(thread, row, word) for thread, part in enumerate(paper) for row, entry in enumerate(part[0])
            if row == 0 or entry is not None for word in [plain_fault(image, paper, thread, row)] if word]


def plain_meeting(code, row):
    """(to, time, rows), or None."""
    fronts = [nexts(code, row)]
    # As many fronts as there are rows, and one more, have some row twice.
    while len(fronts) <= len(code) + 1 and len(fronts[-1]) != 1:
        fronts.append(set().union(*[nexts(code, target) for target in fronts[-1]]))
    together = [target for front in fronts for target in front]
    ahead = set().union(*fronts[:-1])
    if len(fronts[-1]) != 1 or len(fronts) == 1 or len(set(together)) < len(together):
        return None
    if any(code[target] == ("end",) for target in ahead):
        return None
    return (*fronts[-1], len(fronts) - 1, ahead)


def plain_regions(code):
    """The regions of a code: those left when all that may not be there are thrown out, one after another."""
    found = {row: plain_meeting(code, row) for row in range(len(code)) if code[row][0] == "else"}
    found = {row: meet for row, meet in found.items() if meet is not None}
    while True:
        wrong = []
        for row, (_, _, ahead) in found.items():
            comes = all(other in ahead | {row} for target in ahead for other in range(len(code)) if target in nexts(code, other))
            inner = all(target in found for target in ahead if code[target][0] == "else")
            if not comes or not inner or 0 in ahead:
                wrong.append(row)
        if not wrong:
            return tuple((row, *found[row][:2]) for row in sorted(found))
        for row in wrong:
            del found[row]


def plain_least_thread(image, thread):
    """Entries, regions and end of the least paper, None if there is none: all rows hand on again and again."""
    widths, code = image[3][thread]
    regions = [(begin, to, (), time, None, 0) for begin, to, time in plain_regions(code)]
    entries = [None] * len(code)
    entries[0] = ((), ((),) * len(widths), (), None, 0)
    while True:
        kept = (list(entries), list(regions))
        for row in range(len(code)):
            if entries[row] is None:
                continue
            here = PlainRow(image, code, regions, row, entries[row])
            if here.is_high:
                return None
            if here.own is not None:
                begin, to, lot, time, _, _ = regions[here.own]
                behind = 0 if here.g is None else here.t - 1 - time
                if behind < 0 or here.g is not None and here.g > here.own:
                    return None
                regions[here.own] = (begin, to, tuple(sorted(here.x | here.v)), time, here.g, behind)
                here = PlainRow(image, code, regions, row, entries[row])
            stack, places, clock, region, left, _ = here.handed()
            for target in nexts(code, row):
                had = entries[target]
                if had is None:
                    had = (((),) * len(stack), ((),) * len(places), (), region, left)
                if len(had[0]) != len(stack) or had[3:] != (region, left):
                    return None
                entries[target] = (tuple(tuple(sorted(one | set(lot))) for lot, one in zip(had[0], stack)),
                                   tuple(tuple(sorted(one | set(lot))) for lot, one in zip(had[1], places)),
                                   tuple(sorted(clock | set(had[2]))), region, left)
        if kept == (entries, regions):
            end = set().union(*[entry[2] for entry, part in zip(entries, code) if entry is not None and part == ("end",)])
            return (tuple(entries), tuple(regions), tuple(sorted(end)))


def plain_least(image):
    """The least paper, or None."""
    found = tuple(plain_least_thread(image, thread) for thread in range(len(image[3])))
    return None if None in found else found


def plain_hidden(image, paper, level, thread, row):
    entries, regions, _ = paper[thread]
    around, number = [], entries[row][3]
    while number is not None:
        around.append(number)
        number = regions[number][4]
    hidden = [number for number in around if not set(regions[number][2]) <= set(image[0][level])]
    return hidden[-1] if hidden else None


def plain_left(paper, thread, row, region):
    entries, regions, _ = paper[thread]

    def left(number, own):
        return own if number == region else own + left(regions[number][4], regions[number][5])

    return left(entries[row][3], entries[row][4])


def plain_fits(image, paper, state):
    for thread, parts in enumerate(state[4]):
        if parts is not None:
            entry = paper[thread][0][parts[0]]
            if entry is None or len(entry[0]) != len(parts[1]):
                return False
    return True


def plain_unlike(image, paper, level, one, other):
    """All parts in which two states that fit are not alike, in order."""
    order, boxes, rows, threads = image
    below = set(order[level])

    def thread_alike(thread):
        parts = [state[4][thread] for state in (one, other)]
        entries = [None if part is None else paper[thread][0][part[0]] for part in parts]
        hidden_clocks = [entry is not None and not set(entry[2]) <= below for entry in entries]
        if parts == [None, None] or all(hidden_clocks):
            return True
        if any(hidden and parts[1 - index] is None for index, hidden in enumerate(hidden_clocks)):
            return True
        if None in parts or any(hidden_clocks):
            return False
        regions = [plain_hidden(image, paper, level, thread, part[0]) for part in parts]
        if regions[0] != regions[1]:
            return False
        if regions[0] is None:
            if parts[0][0] != parts[1][0]:
                return False
        elif len({plain_left(paper, thread, part[0], regions[0]) for part in parts}) == 2:
            return False
        for at in (0, 1):
            held = [part[1 + at] for part in parts]
            for index in range(min(map(len, held))):
                if all(set(entry[at][index]) <= below for entry in entries) and held[0][index] != held[1][index]:
                    return False
        return True

    found = [("tick",)] if one[0] != other[0] else []
    found += [("box", b) for b, box in enumerate(boxes) if set(box[0]) <= below and one[1][b] != other[1][b]]
    found += [("row", r) for r, row in enumerate(rows) if set(row[0]) <= below and one[2][r] != other[2][r]]
    found += [("stream", m) for m in sorted(below) if one[3][m] != other[3][m]]
    return found + [("thread", t) for t in range(len(threads)) if not thread_alike(t)]
