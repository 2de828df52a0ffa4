"""What the rows of a thread hand on to those that come next, as entries of its paper tell it."""
from lookalike.orders import joined_lots
from lookalike.papers import landing, veil

# How many words instructions take from the stack, of those that take some.
TAKEN = {"keep": 1, "fill": 1, "cell": 1, "cells": 2, "op": 2, "else": 1, "out": 1}


def words_taken(instruction):
    """How many words an instruction takes from the stack."""
    return TAKEN.get(instruction[0], 0)


def all_joined(lots):
    """The lot of all levels of these lots."""
    together = ()
    for lot in lots:
        together = joined_lots(together, lot)
    return together


def taken_lots(instruction, stack):
    """The lots of the words that an instruction takes, which are on the stack."""
    return stack[len(stack) - words_taken(instruction):]


def put_lot(image, instruction, taken, places):
    """The lot of the word that comes on the stack, but for veils, None if none comes on it."""
    word = instruction[0]
    if word == "push":
        return ()
    if word == "local":
        return places[instruction[1]]
    if word == "box":
        return image[1][instruction[1]][0]
    if word == "cell":
        return joined_lots(image[2][instruction[1]][0], taken[0])
    if word == "op":
        return joined_lots(taken[0], taken[1])
    return (instruction[1],) if word == "take" else None


def region_behind(regions, region, left, own):
    """The region that is handed on, and what is left of it; `own` is one that begins at the row, or None."""
    if own is not None:
        return (own, regions[own][3])
    if region is None:
        return (None, 0)
    return landing(regions, region) if left == 1 else (region, left - 1)


def handed_on(image, instruction, entry, regions, own):
    """What a row with this entry hands on, told as an entry; the words that it takes are on the stack."""
    stack, places, clock, region, left = entry
    over = veil(regions, region)
    taken = taken_lots(instruction, stack)
    stack = stack[:len(stack) - len(taken)]
    lot = put_lot(image, instruction, taken, places)
    if lot is not None:
        stack = (*stack, joined_lots(lot, over))
    if instruction[0] == "keep":
        at = instruction[1]
        places = (*places[:at], joined_lots(taken[0], over), *places[at + 1:])
    if instruction[0] == "else" and own is None and region is None:
        clock = joined_lots(clock, taken[0])
    return (stack, places, clock, *region_behind(regions, region, left, own))


def region_numbers(regions):
    """The numbers of regions by the rows at which they begin."""
    return {region[0]: number for number, region in enumerate(regions)}
