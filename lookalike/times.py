"""All numbers of slots, up to some most, that ways through programs take."""
from lookalike.errors import InvalidQuestion
from lookalike.kinds import are_numbers
from lookalike.knots import owners_of
from lookalike.measures import measured
from lookalike.parts import placed_statements, statement_blocks, statement_expressions


class TimeMeasure:
    """Measures parts by the numbers of slots up to a most that ways through them take.

    Such numbers are told by the bits of one integer: the bit with the value
    2 ** k is 1 if k is one of them.
    """

    def __init__(self, most):
        self.most = most
        self.mask = (1 << (most + 1)) - 1

    def slots(self, many):
        return 1 << many if many <= self.most else 0

    def rests(self, many):
        return self.slots(many)

    def together(self, parts):
        times = 1
        for part in parts:
            times = self.sums(times, part)
        return times

    def sums(self, one, other):
        """The sums of one of these numbers and one of those."""
        if other & (other - 1) == 0:
            # At most one number: it is quicker to go through it than through many.
            one, other = other, one
        found = 0
        for many in told_numbers(one):
            found |= other << many
        return found & self.mask

    def either(self, one, other):
        return one | other

    def rounds(self, ahead, inner):
        return self.sums(self.up_to(self.most, self.sums(ahead, inner)), ahead)

    def repeated(self, many, part):
        times = 1
        for _ in range(many):
            further = self.sums(times, part)
            if further == times:
                break
            times = further
        return times

    def up_to(self, many, part):
        """The numbers of up to so many ways behind one another that take these numbers each."""
        times = 1
        for _ in range(many):
            further = times | self.sums(times, part)
            if further == times:
                break
            times = further
        return times


def told_numbers(bits):
    """The ascending list of the numbers that the bits of an integer tell."""
    return [many for many in range(bits.bit_length()) if bits >> many & 1]


def block_times(program, block, most):
    """The ascending numbers of slots up to a most that ways through a block take."""
    return tuple(told_numbers(measured(TimeMeasure(most), program).block(block)))


def begin_slots(program, name, place, most):
    """The ascending numbers of slots up to a most that ways through the block of an owner take to a statement."""
    blocks = [block for owner, _, block in owners_of(program) if isinstance(name, str) and owner == name]
    if len(blocks) == 0:
        raise InvalidQuestion(1)
    if not are_numbers(place) or place not in dict(placed_statements(blocks[0])):
        raise InvalidQuestion(2)
    found = measured(TimeMeasure(most), program)
    block = blocks[0]
    times = 1
    for at in range(0, len(place), 2):
        index = place[at]
        times = found.measure.sums(times, found.block(block[:index]))
        if at + 1 < len(place):
            times = found.measure.sums(times, times_ahead(found, block[index]))
            block = statement_blocks(block[index])[place[at + 1]]
    return tuple(told_numbers(times))


def times_ahead(found, statement):
    """The numbers of slots that ways take from the beginning of a statement to that of a block within it."""
    measure = found.measure
    if statement[0] == "times":
        # No way begins a round more than there are.
        return measure.up_to(statement[1] - 1, found.block(statement[2])) if statement[1] > 0 else 0
    ahead = measure.together([found.expressions(statement_expressions(statement)), measure.slots(1)])
    if statement[0] == "while":
        return measure.rounds(ahead, measure.together([found.block(statement[2]), measure.slots(1)]))
    return ahead
