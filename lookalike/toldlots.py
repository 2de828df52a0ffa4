"""The lots that a told program tells, by knots."""
from lookalike.knots import named_lots, owners_of
from lookalike.orders import joined_lots
from lookalike.parts import calls_within, placed_blocks, statement_blocks, statement_expressions
from lookalike.timing import is_timed, waiting_functions
from lookalike.weaving import name_knot, reads_of


class ToldLots:
    """The lots of the names and results of a told program, and what its functions and blocks add to clocks."""

    def __init__(self, program):
        self.order = program[0]
        self.functions = {function[0]: function for function in program[3]}
        self.waiting = waiting_functions(program)
        # The names of the params and locals of each owner.
        self.places = {owner: {place[0]: True for place in places} for owner, places, _ in owners_of(program)}
        # The lots of the knots of names, and of results.
        self.lots = {knot: lot for knot, lot in named_lots(program)}
        # What each function adds to clocks.
        self.rises = {}
        for name, _, _, block, result in program[3]:
            self.lots[("result", name, ())] = self.lot(name, [result])
            self.rises[name] = joined_lots(self.block_rises(name, block)[()], self.called_rise([result]))

    def knot(self, owner, name):
        """The knot of a name in the text of an owner."""
        return name_knot(owner, self.places[owner], name)

    def reads(self, owner, expressions):
        """The reads of expressions in the text of an owner."""
        return reads_of(owner, self.places[owner], expressions)

    def knots_lot(self, knots):
        """The joined lots of knots of names and results."""
        lot = ()
        for knot in knots:
            lot = joined_lots(lot, self.lots[knot])
        return lot

    def lot(self, owner, expressions):
        """The joined lots of expressions in the text of an owner."""
        return self.knots_lot(self.reads(owner, expressions))

    def called_rise(self, expressions):
        """What the functions that are called in expressions add to clocks."""
        rise = ()
        for _, name, _ in calls_within(expressions):
            rise = joined_lots(rise, self.rises[name])
        return rise

    def lifts(self, statement):
        """Whether the clock behind a statement hangs on its condition."""
        return statement[0] == "while" or (statement[0] == "if" and not is_timed(statement, self.waiting))

    def block_rises(self, owner, block):
        """What a block, by its place (), and each block within it, by its place there, adds to clocks."""
        rises = {}
        for place, inner in reversed(placed_blocks(block)):
            rise = ()
            for index, statement in enumerate(inner):
                sides = [rises[place + (index, side)] for side in range(len(statement_blocks(statement)))]
                rise = joined_lots(rise, self.statement_rise(owner, statement, sides))
            rises[place] = rise
        return rises

    def statement_rise(self, owner, statement, sides):
        """What a statement adds to clocks, if its blocks add these lots."""
        expressions = statement_expressions(statement)
        rise = self.called_rise(expressions)
        for side in sides:
            rise = joined_lots(rise, side)
        return joined_lots(rise, self.lot(owner, expressions)) if self.lifts(statement) else rise
