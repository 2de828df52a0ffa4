"""Another way to tell what can be seen of an image: by its states, all pairs of them, and runs with told words."""
import itertools

from lookalike.machine import advance, step_image
from lookalike.states import start_state
from evenimages import EvenMaker


def plain_step(image, bare, word):
    slot, boxes, rows, threads = bare
    state = (slot, boxes, rows, ((word,),) * len(image[0]), threads)
    (_, boxes, rows, _, threads), _ = step_image(image, state)
    return ((slot + 1) % len(threads), boxes, rows, threads)


def plain_act(image, bare):
    parts = bare[3][bare[0]]
    return None if parts is None else image[3][bare[0]][1][parts[0]]


def plain_words(image, bare):
    act = plain_act(image, bare)
    return range(2 ** act[2]) if act is not None and act[0] == "take" else range(1)


def plain_sight(image, ends, level, bare):
    """The sight, by what a tick of the machine does."""
    act = plain_act(image, bare)
    if act is not None and act[0] == "take":
        return ("take", act[1]) if act[1] in image[0][level] else None
    _, deeds = step_image(image, (bare[0], bare[1], bare[2], ((),) * len(image[0]), bare[3]))
    for deed in deeds:
        lot = {deed[1]} if deed[0] == "out" else set(ends[deed[1]])
        return deed if lot <= set(image[0][level]) else None
    return None


def plain_start(image):
    state = start_state(image, ((),) * len(image[0]))
    return (0, state[1], state[2], state[4])


def plain_states(image, most):
    """All bare states, None if they are more."""
    found = [plain_start(image)]
    for bare in found:
        for word in plain_words(image, bare):
            behind = plain_step(image, bare, word)
            if behind not in found:
                found.append(behind)
        if len(found) > most:
            return None
    return found


class PlainPairs:
    """All pairs of bare states, and those which some words, equal at takes that are seen, lead to unlike sights."""

    def __init__(self, image, ends, level, states):
        self.image, self.states = image, states
        index = {bare: number for number, bare in enumerate(states)}
        self.sights = [plain_sight(image, ends, level, bare) for bare in states]
        self.behind = [[index[plain_step(image, bare, word)] for word in plain_words(image, bare)] for bare in states]
        self.unlike = {}
        many = range(len(states))
        wave = [pair for pair in itertools.product(many, many) if self.sights[pair[0]] != self.sights[pair[1]]]
        comers = {}
        for pair in itertools.product(many, many):
            if self.sights[pair[0]] == self.sights[pair[1]]:
                for other in set(self.nexts(*pair)):
                    comers.setdefault(other, []).append(pair)
        ticks = 0
        while wave:
            self.unlike.update({pair: ticks for pair in wave})
            ticks += 1
            wave = {other for pair in wave for other in comers.get(pair, []) if other not in self.unlike}

    def nexts(self, one, other):
        """The pairs behind two states of one sight."""
        if self.sights[one] is not None and self.sights[one][0] == "take":
            for word in range(16):
                yield self.behind[one][word % len(self.behind[one])], self.behind[other][word % len(self.behind[other])]
        else:
            yield from itertools.product(self.behind[one], self.behind[other])

    def parts(self):
        """Behind how many ticks the first two runs part, None if none do."""
        return self.unlike.get((0, 0))

    def least(self):
        """The least machine, if no two runs part: the classes of what is alike for ever."""
        blocks, firsts = [], []
        for number in range(len(self.states)):
            block = next((block for block, first in enumerate(firsts) if (first, number) not in self.unlike), None)
            if block is None:
                block = len(firsts)
                firsts.append(number)
            blocks.append(block)
        rows = []
        for first in firsts:
            sight, behind = self.sights[first], self.behind[first]
            words = range(16) if sight is not None and sight[0] == "take" else range(1)
            rows.append((sight, tuple(blocks[behind[word % len(behind)]] for word in words)))
        return (tuple(blocks), tuple(rows))


def plain_is_machine(image, ends, level, value, states):
    """Whether any value is a visible machine; the bare states are told."""
    def numbers(part):
        return part.__class__ is tuple and all(number.__class__ is int and number >= 0 for number in part)

    if value.__class__ is not tuple or len(value) != 2 or not numbers(value[0]) or value[1].__class__ is not tuple:
        return False
    blocks, rows = value
    if len(blocks) != len(states) or blocks[0] != 0 or set(blocks) != set(range(max(blocks) + 1)) or len(rows) != max(blocks) + 1:
        return False
    for row in rows:
        if row.__class__ is not tuple or len(row) != 2 or not numbers(row[1]) or any(block >= len(rows) for block in row[1]):
            return False
        if row[0] is not None and (row[0].__class__ is not tuple or not numbers(row[0][1:])):
            return False
    index = {bare: number for number, bare in enumerate(states)}
    for bare, block in zip(states, blocks):
        sight = plain_sight(image, ends, level, bare)
        taken = sight is not None and sight[0] == "take"
        if rows[block][0] != sight or len(rows[block][1]) != (16 if taken else 1):
            return False
        for word in range(16):
            goal = rows[block][1][word if taken else 0]
            if blocks[index[plain_step(image, bare, word)]] != goal:
                return False
    return True


def plain_run(image, ends, level, words, ticks):
    """What a level sees of a run, `words` telling the word at each take by the sights so far and by whether it is seen."""
    bare = plain_start(image)
    told = []
    for tick in range(ticks):
        sight = plain_sight(image, ends, level, bare)
        if sight is not None:
            told.append((tick, sight))
        act = plain_act(image, bare)
        word = words(tuple(told), sight is not None) if act is not None and act[0] == "take" else 0
        bare = plain_step(image, bare, word)
    return tuple(told)


def small_images(many, most, **settings):
    """So many images with takes of few words, that have at most so many bare states: maker, image, ends, states."""
    found = 0
    settings = {"depth": 1, "most_width": 2, "whiles": 0.3, "even": 0.6, **settings}
    for seed in itertools.count():
        maker = EvenMaker(seed, **settings)
        image = maker.image()
        if maker.flip(0.5):
            image = without_end(maker, image)
        states = plain_states(image, most)
        if states is not None:
            found += 1
            yield maker, image, tuple(maker.lot() for _ in image[3]), states
        if found == many:
            return


def without_end(maker, image):
    """The image with a first thread that goes round, if its stack stays small."""
    widths, code = image[3][0]
    return (*image[:3], ((widths, (*code[:-1], ("jump", 0))), *image[3][1:]))


def input_by(image, words):
    """The input of a run that takes these words, tick by tick: of each its stream gets those that are taken."""
    bare = plain_start(image)
    streams = [[] for _ in image[0]]
    for word in words:
        act = plain_act(image, bare)
        if act is not None and act[0] == "take":
            streams[act[1]].append(word)
        bare = plain_step(image, bare, word)
    inputs = tuple(tuple(stream) for stream in streams)
    state = advance(image, start_state(image, inputs), len(words))[0]
    assert (len(words) % len(image[3]), state[1], state[2], state[4]) == bare
    return inputs
