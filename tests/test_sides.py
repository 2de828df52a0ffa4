"""Promises [34] and [35]."""
import unittest

from lookalike.errors import InvalidQuestion
from lookalike.faults import is_let_by
from lookalike.labels import labelled, least_labels
from lookalike.moments import acts_of
from lookalike.orders import covered, order_of
from lookalike.padding import padded_program
from lookalike.sides import closed_ifs, even_ifs, secret_ifs, timed_ifs
from lookalike.spans import told_time
from randomprograms import made_programs
from samples import ORDER
from test_faultways import Plain
from typed import Typed
from ways import all_blocks, statement_at
from wrongvalues import NO_TUPLES, of_other_kinds, same

A, B, C, FOUR = ("name", "a"), ("name", "b"), ("name", "c"), ("word", 4, 3)
DEEP = ("if", A, (("set", "a", ("word", 4, 2)),), ())
ONE = ("if", ("op", "lt", A, ("word", 4, 9)), (DEEP, ("skip", 1)), (("set", "b", A),))
THREAD = ("t", (("a", (1,), 4), ("b", (1,), 4), ("c", (0,), 4)), (
    ("take", "a", 1), ONE, ("take", "c", 0), ("if", C, (("skip", 5),), ()), ("out", 0, C)))
EXAMPLE = (((0,), (0, 1)), (), (), (), (THREAD,))
EMPTY = ("if", A, (), ())


def program_with(*block, functions=()):
    places = (("a", None, 4), ("b", None, 4))
    return (ORDER, (), (), functions, (("t", places, tuple(block)),))


def plain_ifs(program):
    """The timed "if"s, with their sides."""
    typed = Typed(labelled(program))
    found = {}
    for name, place, block in all_blocks(program):
        for index, statement in enumerate(block):
            if statement[0] == "if" and typed.is_timed(statement):
                found[(name, (*place, index))] = statement
    return found


def plainly_closed(program, some):
    """These, and all that stand in their sides, or are come to from there."""
    typed = Typed(labelled(program))
    timed = plain_ifs(program)
    chosen = set(some)
    functions = set()
    waiting = [(name, (*place, side), part) for name, place in some for side, part in enumerate(timed[name, place][2:])]
    while waiting:
        name, place, block = waiting.pop()
        called = []
        for index, statement in enumerate(block):
            spot = (*place, index)
            chosen |= {(name, spot)} if statement[0] == "if" else set()
            called += [call[1] for part in typed.expressions(statement) for call in typed.calls(part)]
            waiting += [(name, (*spot, side), part) for side, part in enumerate(typed.blocks(statement))]
        while called:
            callee = called.pop()
            if callee not in functions:
                functions.add(callee)
                waiting.append((callee, (), typed.functions[callee][3]))
                called += [call[1] for call in typed.calls(typed.functions[callee][4])]
    return tuple(sorted(chosen))


class TimedTest(unittest.TestCase):
    def test_example(self):
        self.assertEqual((timed_ifs(EXAMPLE), closed_ifs(EXAMPLE, (("t", (1,)),)) == secret_ifs(EXAMPLE),
                          even_ifs(padded_program(EXAMPLE))),
                         ((("t", (1,)), ("t", (1, 0, 0)), ("t", (3,))), True, (("t", (1,)), ("t", (1, 0, 0)))))

    def test_not_timed(self):
        loop = ("while", A, ())
        waits = ("f", (), (), (loop,), FOUR)
        calls = ("g", (), (), (), ("call", "f", ()))
        quick = ("h", (), (), (EMPTY,), FOUR)
        shared = (("a", None, 4, 0),)

        def timed(*block):
            program = (ORDER, shared, (), (waits, calls, quick), (("t", (), tuple(block)),))
            self.assertEqual(timed_ifs(program)[0], ("h", (0,)))
            return timed_ifs(program=program)[1:]

        call = {name: ("set", "a", ("call", name, ())) for name in "fgh"}
        self.assertEqual(timed(EMPTY), (("t", (0,)),))
        self.assertEqual(timed(("if", A, (loop,), ())), ())
        self.assertEqual(timed(("if", A, (), (("times", 0, (loop,)),))), ())
        self.assertEqual(timed(("if", A, (EMPTY, call["f"]), ())), (("t", (0, 0, 0)),))
        self.assertEqual(timed(("if", A, (), (call["g"],))), ())
        self.assertEqual(timed(("if", A, (), (call["h"],))), (("t", (0,)),))
        self.assertEqual(timed(loop, ("while", A, (EMPTY,)), ("times", 3, (EMPTY,))), (("t", (1, 0, 0)), ("t", (2, 0, 0))))
        # Its condition does not matter.
        self.assertEqual(timed(("if", ("call", "g", ()), (), ())), (("t", (0,)),))

    def test_as_told_another_way(self):
        for _, program in made_programs(200):
            self.assertTrue(same(timed_ifs(program), tuple(sorted(plain_ifs(program)))))


class EvenTest(unittest.TestCase):
    def test_even(self):
        loop = ("while", A, ())
        program = program_with(EMPTY, DEEP, ("if", A, (("set", "a", FOUR),), (("skip", 2),)), ("if", A, (EMPTY,), (("skip", 3),)),
                               ("if", A, (DEEP,), (DEEP,)), ("if", A, (loop,), (loop,)), ("if", A, (("times", 0, (EMPTY,)),), ()))
        self.assertEqual(even_ifs(program=program), (
            ("t", (0,)), ("t", (2,)), ("t", (3,)), ("t", (3, 0, 0)), ("t", (6,)), ("t", (6, 0, 0, 0, 0))))

    def test_told_times(self):
        some = 0
        for _, program in made_programs(200):
            found = []
            for pair, statement in sorted(plain_ifs(program).items()):
                times = [told_time(program, statement[side]) for side in (2, 3)]
                if times[0] is not None and times[0] == times[1]:
                    found.append(pair)
            self.assertEqual(even_ifs(program), tuple(found))
            some += len(found)
        self.assertGreater(some, 50)

    def test_same_slots_whichever_side(self):
        for condition in (0, 1):
            program = padded_program(EXAMPLE)
            acts = acts_of(program, 0, (condition,) + (condition,) * 9)
            self.assertEqual(acts.index(("take", 0, 4)), 2 + 3 + 1 + 6 + 1)


class ClosedTest(unittest.TestCase):
    def test_small(self):
        inner = ("f", (("x", None, 4),), (), (("if", ("name", "x"), (), ()),), FOUR)
        outer = ("g", (("x", None, 4),), (), (("if", ("name", "x"), (), ()),), ("call", "f", (FOUR,)))
        call = ("set", "a", ("call", "g", (FOUR,)))
        program = program_with(("if", A, (), (call,)), ("if", ("call", "f", (FOUR,)), (EMPTY,), ()), ("times", 2, (EMPTY,)),
                               ("if", A, (("out", 0, ("op", "add", A, ("call", "f", (A,)))),), ()), functions=(inner, outer))
        t = [("t", (index,)) for index in range(4)]
        for some, closed in (((), ()), ((t[0],), (("f", (0,)), ("g", (0,)), t[0])), ((t[1],), (t[1], ("t", (1, 0, 0)))),
                             ((("t", (1, 0, 0)),), (("t", (1, 0, 0)),)), ((("t", (2, 0, 0)),), (("t", (2, 0, 0)),)),
                             ((t[3],), (("f", (0,)), t[3])), ((("g", (0,)),), (("g", (0,)),)),
                             ((t[1], t[3]), (("f", (0,)), t[1], ("t", (1, 0, 0)), t[3]))):
            self.assertEqual(closed_ifs(program=program, some=some), closed)

    def test_calls_in_args_and_conditions_within(self):
        inner = ("f", (("x", None, 4),), (), (("if", ("name", "x"), (), ()),), ("name", "x"))
        other = ("g", (("x", None, 4),), (), (), ("call", "f", (FOUR,)))
        arg = ("set", "a", ("call", "g", (("call", "f", (FOUR,)),)))
        for block in ((arg,), (("if", ("call", "g", (A,)), (), ()),), (("times", 0, (("put", "r", ("call", "f", (A,)), A),)),)):
            program = (*program_with(("if", A, block, ()))[:2], (("r", None, 4, 2),), (inner, other),
                       program_with(("if", A, block, ()))[4])
            self.assertIn(("f", (0,)), closed_ifs(program, (("t", (0,)),)))

    def test_as_told_another_way(self):
        some = 0
        for maker, program in made_programs(250):
            timed = timed_ifs(program)
            one, other = [tuple(pair for pair in timed if maker.flip(0.3)) for _ in range(2)]
            closed = closed_ifs(program, one)
            some += closed != one
            self.assertTrue(same(closed, plainly_closed(program, one)))
            self.assertLessEqual(set(closed), set(timed))
            self.assertEqual(closed_ifs(program, closed), closed)
            both = tuple(sorted(set(one) | set(other)))
            self.assertEqual(set(closed_ifs(program, both)), set(closed) | set(closed_ifs(program, other)))
        self.assertGreater(some, 30)

    def test_wrong_values(self):
        timed = timed_ifs(EXAMPLE)
        wrong = [*NO_TUPLES, *of_other_kinds(timed), timed[::-1], (*timed, timed[-1]), timed[0], (("t", (0,)),), (("t", ()),),
                 (("t", (1, 0)),), (("u", (1,)),), (("t", (True,)),), (("t", (1.0,)),), (["t", (1,)],), ([],), ((("t",), (1,)),),
                 (("t", (1,), 0),), (("t",),), (("t", 1),), ((None, (1,)),), (([], (1,)),), (("t", ([],)),), [("t", (1,))],
                 (("t", (1, 0, 0)), ("t", (1,)))]
        for value in wrong:
            with self.assertRaises(InvalidQuestion, msg=value) as caught:
                closed_ifs(EXAMPLE, value)
            self.assertEqual(caught.exception.at, 1)
        program = program_with(("if", A, (("while", A, ()),), ()))
        with self.assertRaises(InvalidQuestion):
            closed_ifs(program, (("t", (0,)),))
        self.assertEqual(closed_ifs(program, ()), ())


class SecretTest(unittest.TestCase):
    def test_what_is_seen_anyway(self):
        secret = (("take", "a", 1),)
        self.assertEqual(secret_ifs(program=program_with(*secret, DEEP)), (("t", (1,)),))
        self.assertEqual(secret_ifs(program_with(("take", "a", 0), DEEP)), ())
        # Whoever sees the clock sees the condition, too.
        self.assertEqual(secret_ifs(program_with(*secret, ("while", A, ()), DEEP)), ())
        self.assertEqual(secret_ifs(program_with(*secret, ("while", A, (DEEP,)))), ())
        self.assertEqual(secret_ifs(program_with(*secret, ("if", A, (("while", A, ()), DEEP), ()))), ())
        # Which side is gone along is known in it, but an "if" in a secret side is closed up.
        self.assertEqual(secret_ifs(program_with(*secret, ("if", A, (EMPTY,), ()))), (("t", (1,)), ("t", (1, 0, 0))))
        self.assertEqual(secret_ifs(program_with(*secret, ("if", FOUR, (DEEP,), ()))), (("t", (1, 0, 0)),))

    def test_functions(self):
        function = ("f", (("x", None, 4),), (), (("while", ("name", "x"), ()), ("if", ("name", "x"), (), ())), FOUR)
        call = ("set", "b", ("call", "f", (A,)))
        self.assertEqual(secret_ifs(program_with(("take", "a", 1), call, functions=(function,))), (("f", (1,)),))
        self.assertEqual(secret_ifs(program_with(call, functions=(function,))), ())

    def test_what_all_levels_see(self):
        # Level 0 is within all levels, so no one is kept from it.
        low = (("set", "a", A),)
        program = (ORDER, (), (), (), (("t", (("a", (0,), 4),), (*low, EMPTY)),))
        self.assertEqual(covered(ORDER, (0,), ()), True)
        self.assertEqual(secret_ifs(program), ())
        apart = (order_of(2, []), *program[1:])
        self.assertEqual(secret_ifs(apart), (("t", (1,)),))

    def test_as_told_by_labels(self):
        some = 0
        for _, program in made_programs(250):
            labels = dict(least_labels(program))
            plain = Plain(labelled(program))
            found = []
            for (name, place), statement in plain_ifs(program).items():
                reads = {level for knot in plain.reads(name, statement[1]) for level in labels.get(knot, ())}
                known = set()
                if name in [thread[0] for thread in program[4]]:
                    known = {level for knot in (("clock", name, place), ("pc", name, place[:-1])) for level in labels.get(knot, ())}
                if not covered(program[0], tuple(sorted(reads)), tuple(sorted(known))):
                    found.append((name, place))
            self.assertTrue(same(secret_ifs(program), plainly_closed(program, tuple(sorted(found)))))
            some += len(found)
        self.assertGreater(some, 50)

    def test_other_ones_are_seen_by_who_sees_whether_they_are_come_to(self):
        for _, program in made_programs(250, told=False, levels=3):
            if is_let_by(program):
                labels = dict(least_labels(program))
                secrets = secret_ifs(program)
                for name, place in timed_ifs(program):
                    if name == "t" and (name, place) not in secrets:
                        block = [thread[2] for thread in program[4] if thread[0] == "t"][0]
                        knots = Plain(labelled(program)).reads(name, statement_at(block, place)[1])
                        known = labels.get(("clock", name, place), ()) + labels.get(("pc", name, place[:-1]), ())
                        for knot in knots:
                            self.assertTrue(covered(program[0], labels.get(knot, ()), tuple(sorted(set(known)))))


if __name__ == "__main__":
    unittest.main()
