"""Where both ways behind a choice meet, behind as many slots."""
from lookalike.code import successors


def fronts_behind(code, row):
    """The fronts behind an `else`, up to the first one that is one row; None if it has no such or no right one."""
    front = successors(code, row)
    fronts = [front]
    found = {}
    while len(front) > 1:
        if any(code[target][0] == "end" for target in front):
            return None
        found.update({target: True for target in front})
        front = rows_behind(code, front)
        fronts.append(front)
        if any(target in found for target in front):
            return None
    return fronts


def rows_behind(code, rows):
    """The ascending tuple of all rows that may come next behind these."""
    found = {}
    for row in rows:
        found.update({target: True for target in successors(code, row)})
    return tuple(sorted(list(found)))


def meeting(code, row):
    """The pair of the row at which the ways behind an `else` meet, and the time until then; None if there is none."""
    fronts = fronts_behind(code, row)
    if fronts is None or len(fronts) == 1:
        return None
    return (fronts[-1][0], len(fronts) - 1)


def rows_ahead(code):
    """For each row the list of the rows behind which it may come next."""
    found = [[] for _ in code]
    for row in range(len(code)):
        for target in successors(code, row):
            found[target].append(row)
    return found


def closed_rows(ahead, row, fronts):
    """The rows in the fronts of an `else` ahead of the last one; None if something else leads there."""
    inner = {}
    for front in fronts[:-1]:
        inner.update({target: True for target in front})
    if 0 in inner:
        return None
    for target in inner:
        if any(other != row and other not in inner for other in ahead[target]):
            return None
    return list(inner)


def code_regions(code):
    """The ascending triples of an `else`, the row at which its ways meet, and the time until then, for all regions."""
    ahead = rows_ahead(code)
    found = {}
    inner = {}
    for row, instruction in enumerate(code):
        fronts = fronts_behind(code, row) if instruction[0] == "else" else None
        rows = None if fronts is None or len(fronts) == 1 else closed_rows(ahead, row, fronts)
        if rows is not None:
            found[row] = (row, fronts[-1][0], len(fronts) - 1)
            inner[row] = [other for other in rows if code[other][0] == "else"]
    many = len(found) + 1
    while len(found) < many:
        many = len(found)
        found = {begin: found[begin] for begin in found if all(other in found for other in inner[begin])}
    return tuple([found[row] for row in sorted(list(found))])
