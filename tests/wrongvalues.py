"""Values that are not quite right, for tests of what takes any value."""

NO_TUPLES = (None, True, 0, 1, -1, 1.0, "", "a", b"a", [], {}, [()], ({},), ([],), (None,), ("a",), ((),), (((),),))
NO_NUMBERS = (None, True, False, -1, 1.0, "", "1", (), (1,), [1])


def parts_of(value, path=()):
    """All values within a value of tuples, with the paths to them."""
    yield path, value
    if isinstance(value, tuple):
        for index, part in enumerate(value):
            yield from parts_of(part, (*path, index))


def replaced(value, path, part):
    """The value with another part at the path."""
    if path == ():
        return part
    inner = replaced(value[path[0]], path[1:], part)
    return (*value[:path[0]], inner, *value[path[0] + 1:])


def of_other_kinds(value):
    """Values like this one, but with one part of another kind: True for 1, lists for tuples."""
    for path, part in parts_of(value):
        if isinstance(part, tuple):
            yield replaced(value, path, list(part))
        elif isinstance(part, int):
            yield replaced(value, path, float(part) if part < 2 ** 53 else str(part))
            yield replaced(value, path, -1 - part)
            if part in (0, 1):
                yield replaced(value, path, bool(part))
        elif isinstance(part, str):
            yield replaced(value, path, part.encode())


def otherwise(value):
    """Values with one part left out, twice, turned about, or another one: most are wrong, some may be right."""
    for path, part in parts_of(value):
        for other in (None, "", "a", "word", (), 0, 1, 2, 64, 65):
            yield replaced(value, path, other)
        if isinstance(part, tuple):
            yield replaced(value, path, part[:-1])
            yield replaced(value, path, part[1:])
            yield replaced(value, path, (*part, *part[-1:]))
            yield replaced(value, path, part[::-1])
            yield replaced(value, path, (part,))


def same(one, other):
    """Whether two values of tuples are equal, and of the same kinds throughout."""
    if isinstance(one, tuple) and isinstance(other, tuple):
        return len(one) == len(other) and all(same(a, b) for a, b in zip(one, other))
    return one.__class__ is other.__class__ and one == other
