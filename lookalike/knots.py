"""Knots, the flows between them, and the levels and lots that are told of them."""
from lookalike.parts import placed_statements
from lookalike.weaving import Weaver, name_knot, weave_owner, weave_result


def owners_of(program):
    """For each function and thread its name, its params and locals, and its block."""
    functions = [(function[0], function[1] + function[2], function[3]) for function in program[3]]
    return functions + list(program[4])


def flows(program):
    """The ascending pairs of a knot and another one to which it flows."""
    weaver = Weaver(program)
    for name, places, block in owners_of(program):
        weaver.owner = name
        weaver.places = {place[0]: True for place in places}
        weave_owner(weaver, block)
        if name in weaver.functions:
            weave_result(weaver, weaver.functions[name])
    return tuple(sorted(list(weaver.found)))


def named_lots(program):
    """For each box, row, param and local a pair of its knot and its lot, in any order."""
    found = [(("name", "", part[0]), part[1]) for part in program[1] + program[2]]
    for name, places, _ in owners_of(program):
        found.extend([(("name", name, place[0]), place[1]) for place in places])
    return found


def sources(program):
    """The ascending pairs of a knot and a level that comes from it."""
    found = {}
    for knot, lot in named_lots(program):
        for level in lot or ():
            found[(knot, level)] = True
    for owner, places, block in owners_of(program):
        names = {place[0]: True for place in places}
        for _, statement in placed_statements(block):
            if statement[0] == "take":
                found[(name_knot(owner, names, statement[1]), statement[2])] = True
    return tuple(sorted(list(found)))


def caps(program):
    """The ascending pairs of a knot and the lot that must cover what comes to it."""
    found = [(knot, lot) for knot, lot in named_lots(program) if lot is not None]
    for owner, _, block in owners_of(program):
        for place, statement in placed_statements(block):
            if statement[0] == "out":
                found.append((("out", owner, place), (statement[1],)))
            elif statement[0] == "take":
                found.append((("take", owner, place), (statement[2],)))
    return tuple(sorted(found))


def open_knots(program):
    """The ascending knots of names whose lots are left open."""
    return tuple(sorted([knot for knot, lot in named_lots(program) if lot is None]))
