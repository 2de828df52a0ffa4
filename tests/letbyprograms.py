"""Programs made at random that are let by, with secrets in them."""
from lookalike.faults import type_faults
from lookalike.labels import labelled
from lookalike.orders import order_of
from randomprograms import Maker


class ChainMaker(Maker):
    """Makes programs with levels each of which is within the next one, boxes and all else open."""

    def order(self):
        levels = self.random.randint(2, self.most_levels)
        return order_of(levels, [(level, level + 1) for level in range(levels - 1)])


def with_level(block, place, level):
    """The block with this level for the "out" or "take" at the place."""
    index = place[0]
    statement = block[index]
    if len(place) > 1:
        sides = {"if": 2, "while": 1, "times": 1}[statement[0]]
        at = len(statement) - sides + place[1]
        changed = (*statement[:at], with_level(statement[at], place[2:], level), *statement[at + 1:])
    elif statement[0] == "out":
        changed = (*statement[:1], level, *statement[2:])
    else:
        changed = (*statement[:2], level)
    return (*block[:index], changed, *block[index + 1:])


def repaired(program):
    """The program with the highest level for each "out" and "take" that is a fault."""
    top = len(program[0]) - 1
    while True:
        faults = type_faults(labelled(program))
        if faults == ():
            return program
        owner, place, _, _ = faults[0]
        functions = [(*part[:3], with_level(part[3], place, top), part[4]) if part[0] == owner else part for part in program[3]]
        threads = [(*part[:2], with_level(part[2], place, top)) if part[0] == owner else part for part in program[4]]
        program = (*program[:3], tuple(functions), tuple(threads))


def let_by_programs(many, **settings):
    """So many programs that are let by, each with its maker."""
    for seed in range(many):
        maker = ChainMaker(seed, levels=3, told=False, **settings)
        yield maker, repaired(maker.program())
