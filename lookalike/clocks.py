"""The lots of expressions, of what blocks add to clocks, and of the moments of statements, in told programs."""
from lookalike.orders import joined_lots
from lookalike.parts import calls_within, statement_blocks, statement_expressions
from lookalike.toldlots import ToldLots


def lot_of(program, owner, expression):
    """The lot of an expression that may stand in the text of an owner."""
    return ToldLots(program).lot(owner, [expression])


def rise_of(program, owner, block):
    """The lot of what a block that may stand in the text of an owner adds to clocks."""
    return ToldLots(program).block_rises(owner, block)[()]


def moment_lots(program):
    """Ascending, for each statement and the beginning of each owner: owner, place, pc and clock."""
    found = moments_of(ToldLots(program), program)
    return tuple(sorted([(*spot, *moment) for spot, moment in found.items()]))


def moments_of(told, program):
    """The pairs of pc and clock by pairs of owner and place.

    Whoever calls a function is gone through ahead of it: threads first, then
    the functions from the last one on.
    """
    walk = MomentWalk(told)
    for name, _, block in program[4]:
        walk.go_through(name, block)
    for name, _, _, block, result in reversed(program[3]):
        end = walk.go_through(name, block)
        choice, _ = walk.found[(name, ())]
        walk.call([result], choice, joined_lots(end, told.called_rise([result])))
    return walk.found


class MomentWalk:
    """The moments of a told program, as far as they are found."""

    def __init__(self, told):
        self.known = told
        self.found = {}
        for owner in told.places:
            self.found[(owner, ())] = ((), ())

    def call(self, expressions, choice, clock):
        """Have all functions called in expressions begin with this pc and clock, too."""
        for _, name, _ in calls_within(expressions):
            had_choice, had_clock = self.found[(name, ())]
            self.found[(name, ())] = (joined_lots(had_choice, choice), joined_lots(had_clock, clock))

    def go_through(self, owner, block):
        """Find the moments in the block of an owner whose beginning is known, and tell the clock behind it."""
        rises = self.known.block_rises(owner, block)
        choice, clock = self.found[(owner, ())]
        waiting = [((), block, choice, clock)]
        end = None
        while waiting:
            place, inner, choice, clock = waiting.pop()
            for index, statement in enumerate(inner):
                spot = (*place, index)
                blocks = statement_blocks(statement)
                sides = [rises[spot + (side,)] for side in range(len(blocks))]
                clock = self.begin(owner, statement, sides, clock)
                self.found[(owner, spot)] = (choice, clock)
                self.call(statement_expressions(statement), choice, clock)
                under_choice = self.choice_within(owner, statement, choice)
                waiting.extend([((*spot, side), under, under_choice, clock) for side, under in enumerate(blocks)])
                clock = self.behind(owner, statement, sides, clock)
            if place == ():
                end = clock
        return end

    def begin(self, owner, statement, sides, clock):
        """The clock of a statement behind this clock, its blocks adding these lots."""
        expressions = statement_expressions(statement)
        clock = joined_lots(clock, self.known.called_rise(expressions))
        if statement[0] in ("while", "times"):
            clock = joined_lots(clock, sides[0])
        if statement[0] == "while":
            clock = joined_lots(clock, self.known.lot(owner, expressions))
        return clock

    def choice_within(self, owner, statement, choice):
        """The pc of the blocks of a statement that has this one."""
        if statement[0] in ("if", "while"):
            return joined_lots(choice, self.known.lot(owner, [statement[1]]))
        return choice

    def behind(self, owner, statement, sides, clock):
        """The clock behind a statement with this clock, its blocks adding these lots."""
        if statement[0] != "if":
            return clock
        clock = joined_lots(clock, joined_lots(sides[0], sides[1]))
        return joined_lots(clock, self.known.lot(owner, [statement[1]])) if self.known.lifts(statement) else clock
