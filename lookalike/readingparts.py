"""Reading blocks and expressions, by goals.

What is *needed* of an expression is a width, or None if it may have any one.
"""
from lookalike.kinds import is_name
from lookalike.programs import MOST_TIMES
from lookalike.words import OPS, op_width

MOST_WORD = (1 << 32) - 1


def read_block(reader):
    """The block behind its opening bracket; its closing one is taken."""
    return reach(reader, ("statements", False))


def read_expression(reader):
    """An expression of any width, which the reader keeps."""
    return reach(reader, ("expression", None))[0]


def reach(reader, first):
    """What is gathered by a goal, and by all goals that come of it."""
    reader.begin([])
    reader.goals.append(first)
    while reader.goals:
        goal = reader.goals.pop()
        action = GOALS[goal[0]]
        action(reader, goal)
    return tuple(reader.made.pop())


def reach_sign(reader, goal):
    reader.take_sign(goal[1])


def reach_close(reader, _):
    reader.close()


def reach_done(reader, goal):
    """An expression is over that has this width."""
    reader.close()
    reader.width = goal[1]


def reach_expression(reader, goal):
    need = goal[1]
    token = reader.look("0")
    if is_name(token):
        begin_named(reader, token, need)
    elif token == "(":
        reader.step()
        reader.begin(["op"])
        # Operands of any width can be told equal or less, which has the width 1.
        first = None if need == 1 else need
        reader.add_goals([("expression", first), ("operator", need)])
    else:
        read_word(reader, need)


def read_word(reader, need):
    """Read a word with its width."""
    number = reader.take_number(0, MOST_WORD if need is None else (1 << need) - 1)
    reader.take_sign(":")
    width = reader.take_width(need, number)
    reader.gather(("word", width, number))
    reader.width = width


def begin_named(reader, name, need):
    """Read what begins with a name: locals may have the name of a function."""
    scope = reader.scope
    is_place = name in scope.places and need in (None, scope.places[name])
    is_row = name in scope.rows and need in (None, scope.rows[name])
    is_call = name in scope.functions and need in (None, scope.functions[name][1])
    if not is_place and not is_row and not is_call:
        reader.refuse()
    reader.step()
    if is_row:
        reader.begin(["at", name])
        reader.take_sign("[")
        reader.add_goals([("expression", None), ("sign", "]"), ("done", scope.rows[name])])
    elif is_place and not (is_call and reader.is_next("(")):
        reader.gather(("name", name))
        reader.width = scope.places[name]
    else:
        begin_call(reader, name)


def begin_call(reader, name):
    """Read what stands behind the name of a function that is called."""
    needs, width = reader.scope.functions[name]
    reader.take_sign("(")
    reader.begin(["call", name])
    reader.begin([])
    goals = []
    for index, need in enumerate(needs):
        if index > 0:
            goals.append(("sign", ","))
        goals.append(("expression", need))
    reader.add_goals([*goals, ("sign", ")"), ("close",), ("done", width)])


def reach_operator(reader, goal):
    """The op behind the first operand, and all that stands behind it."""
    need = goal[1]
    op = reader.look("eq" if need in (None, 1) else "add")
    if op not in OPS or need not in (None, op_width(op, reader.width)):
        reader.refuse()
    reader.step()
    reader.made[-1].insert(1, op)
    done = ("done", op_width(op, reader.width))
    reader.add_goals([("expression", reader.width), ("sign", ")"), done])


def reach_statements(reader, goal):
    """The statements of a block up to its end, of which one is wanted at least if this is told."""
    is_wanted = goal[1]
    token = reader.look("skip" if is_wanted else "}")
    if token == "}" and not is_wanted:
        reader.step()
        return
    reader.add_goals([("statements", False)])
    if token == "take" and len(reader.scope.places) == 0:
        # There is no name that could stand behind it.
        reader.refuse()
    if token in STATEMENTS:
        reader.step()
        action = STATEMENTS[token]
        action(reader)
    elif token in reader.scope.places:
        reader.step()
        begin_set(reader, token)
    elif token in reader.scope.rows:
        reader.step()
        begin_put(reader, token)
    else:
        reader.refuse()


def reach_block(reader, goal):
    """A block with its brackets."""
    reader.take_sign("{")
    reader.begin([])
    reader.add_goals([("statements", goal[1]), ("close",)])


def reach_else(reader, _):
    """The second side of an "if", which stands in the text only if it is not empty."""
    if reader.goes_on_with("else"):
        reader.add_goals([("block", True)])
    else:
        reader.gather(())


GOALS = {
    "sign": reach_sign,
    "close": reach_close,
    "done": reach_done,
    "expression": reach_expression,
    "operator": reach_operator,
    "statements": reach_statements,
    "block": reach_block,
    "else": reach_else,
}


def begin_set(reader, name):
    reader.begin(["set", name])
    need = reader.scope.places[name]
    reader.add_goals([("sign", "="), ("expression", need), ("sign", ";"), ("close",)])


def begin_put(reader, name):
    reader.begin(["put", name])
    need = reader.scope.rows[name]
    reader.add_goals([("sign", "["), ("expression", None), ("sign", "]"), ("sign", "="),
                      ("expression", need), ("sign", ";"), ("close",)])


def begin_if(reader):
    reader.begin(["if"])
    reader.add_goals([("expression", None), ("block", False), ("else",), ("close",)])


def begin_while(reader):
    reader.begin(["while"])
    reader.add_goals([("expression", None), ("block", False), ("close",)])


def begin_times(reader):
    reader.begin(["times", reader.take_number(0, MOST_TIMES)])
    reader.add_goals([("block", False), ("close",)])


def begin_out(reader):
    reader.begin(["out", take_level(reader)])
    reader.add_goals([("expression", None), ("sign", ";"), ("close",)])


def read_take(reader):
    places = reader.scope.places
    name = reader.look(sorted(places)[0])
    if name not in places:
        reader.refuse()
    reader.step()
    level = take_level(reader)
    reader.take_sign(";")
    reader.gather(("take", name, level))


def read_skip(reader):
    number = reader.take_number(0, None)
    reader.take_sign(";")
    reader.gather(("skip", number))


def take_level(reader):
    """Take and tell a level."""
    return reader.take_number(0, len(reader.scope.order) - 1)


STATEMENTS = {
    "if": begin_if,
    "while": begin_while,
    "times": begin_times,
    "out": begin_out,
    "take": read_take,
    "skip": read_skip,
}
