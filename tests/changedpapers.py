"""Papers of images with some things changed at random: many have faults, some are still checked."""
from lookalike.papers import is_paper
from wrongvalues import replaced


def other_lot(maker, lot):
    """A lot with a level more or less, or another one."""
    way = maker.random.random()
    level = maker.random.randrange(len(maker.levels))
    if way < 0.5:
        return tuple(sorted({*lot, level}))
    if way < 0.8:
        return tuple(low for low in lot if low != level)
    return maker.lot()


def change(maker, image, paper):
    """The paper with one thing changed, perhaps no paper any more."""
    thread = maker.random.randrange(len(paper))
    entries, regions, end = paper[thread]
    way = maker.random.choice(["clock", "word", "word", "local", "local", "place", "left", "none", "copy", "region", "region", "lot", "end"])
    rows = [row for row, entry in enumerate(entries) if entry is not None]
    if not rows:
        return paper
    row = maker.random.choice(rows)
    stack, places, clock, region, left = entries[row]
    entry = entries[row]
    if way == "end":
        return replaced(paper, (thread, 2), other_lot(maker, end))
    if way in ("region", "lot") and regions:
        number = maker.random.randrange(len(regions))
        if way == "lot":
            return replaced(paper, (thread, 1, number, 2), other_lot(maker, regions[number][2]))
        at = maker.random.choice([1, 3, 4, 5])
        old = regions[number][at]
        new = {1: maker.random.randrange(len(entries)), 3: old and max(1, old + maker.random.choice([-1, 1])),
               4: maker.random.choice([None, *range(number)]), 5: max(0, regions[number][5] + maker.random.choice([-1, 1]))}[at]
        return replaced(paper, (thread, 1, number, at), new)
    if way == "clock":
        entry = (stack, places, other_lot(maker, clock), region, left)
    elif way == "word":
        index = maker.random.randrange(len(stack) + 1)
        lots = (*stack[:index], other_lot(maker, stack[index]), *stack[index + 1:]) if index < len(stack) else (*stack, maker.lot())
        entry = (lots if maker.flip(0.8) else stack[:-1], places, clock, region, left)
    elif way == "local" and places:
        index = maker.random.randrange(len(places))
        entry = (stack, (*places[:index], other_lot(maker, places[index]), *places[index + 1:]), clock, region, left)
    elif way == "place" and regions:
        entry = (stack, places, clock, maker.random.randrange(len(regions)), maker.random.randint(1, 3))
        entry = entry if maker.flip(0.6) else (stack, places, clock, None, 0)
    elif way == "left" and region is not None:
        entry = (stack, places, clock, region, max(1, left + maker.random.choice([-1, 1])))
    elif way == "none":
        entry = None
    elif way == "copy":
        entry = entries[maker.random.choice(rows)]
    return replaced(paper, (thread, 0, row), entry)


def raised(maker, image, paper):
    """The paper with one level in all lots of a thread, so that more faults are without a stack or a flow."""
    level = maker.random.randrange(len(maker.levels))
    thread = maker.random.randrange(len(paper))
    lift = lambda lot: tuple(sorted({*lot, level}))
    entries, regions, end = paper[thread]
    entries = tuple(entry and (tuple(map(lift, entry[0])), tuple(map(lift, entry[1])), *entry[2:]) for entry in entries)
    return (*paper[:thread], (entries, tuple((*part[:2], lift(part[2]), *part[3:]) for part in regions), end), *paper[thread + 1:])


def changed_papers(maker, image, paper, many):
    """Papers made of one, the number of changes growing."""
    for number in range(many):
        other = raised(maker, image, paper) if number % 4 == 3 else paper
        for _ in range(1 + number % 3):
            new = change(maker, image, other)
            other = new if is_paper(image, new) else other
        yield other


def changed_image(maker, image):
    """The image with an instruction changed to one that takes and puts on as many words, or the lot of a box."""
    thread = maker.random.randrange(len(image[3]))
    code = image[3][thread][1]
    row = maker.random.randrange(len(code))
    act = code[row]
    level = maker.random.randrange(len(maker.levels))
    if act[0] in ("out", "take"):
        act = (act[0], level, *act[2:])
    elif act[0] in ("push", "local", "box"):
        act = maker.random.choice([("local", maker.random.randrange(len(image[3][thread][0]))), ("take", level, 1), ("push", 1, 1)])
    elif act[0] in ("keep", "fill"):
        act = maker.random.choice([("keep", maker.random.randrange(len(image[3][thread][0]))), ("out", level)])
    elif act[0] in ("jump", "else"):
        act = (act[0], maker.random.randrange(len(code)))
    elif act[0] == "rest":
        act = ("jump", row + 1)
    return replaced(image, (3, thread, 1, row), act)
