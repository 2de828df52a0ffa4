"""Promise [15]."""
import unittest

from lookalike.meaning import start_program, step_program
from lookalike.tasks import frame
from randomprograms import made_programs
from samples import FULL, SMALL, with_block

A, B, FOUR = ("name", "a"), ("name", "b"), ("word", 4, 3)
NO_WORDS = ((), ())


def act(*parts):
    return ("", parts)


def begin(*block):
    """What a thread with this block has to do at first."""
    return start_program(with_block(*block), NO_WORDS)[4][0][0]


def behind(block, inputs=NO_WORDS, ticks=1):
    """What it has to do behind so many ticks."""
    program = with_block(*block)
    state = start_program(program, inputs)
    for _ in range(ticks):
        state = step_program(program, state)[0]
    return state[4][0][0]


class FrameTest(unittest.TestCase):
    def test_small(self):
        self.assertEqual(frame(program=SMALL, thread=0), (("t", "a", 4),))

    def test_own_ones_first_then_those_of_all_functions(self):
        of_f = (("f", "a", 4), ("f", "c", 1), ("f", "d", 4))
        self.assertEqual(frame(FULL, 0), (("t", "a", 4), ("t", "f", 1), *of_f))
        self.assertEqual(frame(FULL, 1), of_f)

    def test_made_ones(self):
        for _, program in made_programs(60):
            for number, (name, places, _) in enumerate(program[4]):
                told = [(name, place[0], place[2]) for place in places]
                for function in program[3]:
                    told += [(function[0], place[0], place[2]) for place in function[1] + function[2]]
                self.assertEqual(frame(program, number), tuple(told))


class TodoTest(unittest.TestCase):
    def test_nothing(self):
        self.assertEqual(begin(), ())
        self.assertEqual(begin(("skip", 0)), ())
        self.assertEqual(begin(("times", 0, (("skip", 3),)), ("skip", 0)), ())
        self.assertEqual(begin(("times", 64, ())), ())

    def test_expressions(self):
        out = act("out", 0)
        self.assertEqual(begin(("out", 0, FOUR)), (act("push", 4, 3), out))
        self.assertEqual(begin(("out", 0, B)), (act("local", 1), out))
        self.assertEqual(begin(("out", 0, ("name", "c"))), (act("box", 0), out))
        self.assertEqual(begin(("out", 0, ("at", "r", B))), (act("local", 1), act("cell", 0), out))
        self.assertEqual(begin(("out", 0, ("op", "lt", A, FOUR))), (act("local", 0), ("t", FOUR), act("op", "lt", 4), out))
        self.assertEqual(begin(("out", 0, ("op", "eq", ("op", "lt", A, FOUR), B))),
                         (act("local", 0), ("t", FOUR), act("op", "lt", 4), ("t", B), act("op", "eq", 1), out))

    def test_statements(self):
        self.assertEqual(begin(("set", "a", FOUR)), (act("push", 4, 3), act("keep", 0)))
        self.assertEqual(begin(("set", "c", ("name", "c"))), (act("box", 0), act("fill", 0)))
        self.assertEqual(begin(("put", "r", B, FOUR)), (act("local", 1), ("t", FOUR), act("cells", 0)))
        self.assertEqual(begin(("take", "b", 1)), (act("take", 1, 1), act("keep", 1)))
        self.assertEqual(begin(("take", "c", 0)), (act("take", 0, 8), act("fill", 0)))
        self.assertEqual(begin(("skip", 3), ("skip", 2)), (act("rest"), act("rest"), act("rest"), ("t", ("skip", 2))))

    def test_blocks(self):
        one, other = (("skip", 1),), (("skip", 2), ("skip", 0))
        self.assertEqual(begin(("if", A, one, other)), (act("local", 0), ("t", ("choose", one, other))))
        self.assertEqual(begin(("while", A, one)), (act("local", 0), ("t", ("test", A, one))))
        self.assertEqual(begin(("times", 2, other)), (act("rest"), act("rest"), ("t", ("skip", 0)), ("t", ("times", 1, other))))
        self.assertEqual(behind([("times", 1, one)]), ())
        self.assertEqual(behind([("times", 2, one)]), (act("rest"), ("t", ("times", 0, one))))

    def test_calls(self):
        todo = (act("push", 4, 3), ("t", B), act("keep", 3), act("keep", 2), ("f", ("name", "x")), act("out", 0))
        self.assertEqual(begin(("out", 0, ("call", "f", (FOUR, B)))), todo)
        program = FULL[:4] + ((("t", (("a", None, 4),), (("out", 1, ("call", "f", (A, ("word", 1, 1)))),)),),)
        block = tuple(("f", statement) for statement in FULL[3][0][3])
        self.assertEqual(start_program(program, NO_WORDS)[4][0][0], (
            act("local", 0), ("t", ("word", 1, 1)), act("keep", 2), act("keep", 1), act("push", 4, 0), act("keep", 3),
            *block, ("f", FULL[3][0][4]), act("out", 1)))

    def test_choices(self):
        one, other = (("skip", 1),), (("set", "a", A), ("skip", 4))
        for word, todo in ((1, (act("rest"), act("rest"))), (0, (act("local", 0), act("keep", 0), ("t", ("skip", 4)), act("rest")))):
            self.assertEqual(behind([("if", ("word", 1, word), one, other)], ticks=2), todo)
        self.assertEqual(behind([("if", ("word", 4, 9), (), other)], ticks=2), (act("rest"),))

    def test_rounds(self):
        side = (("skip", 1),)
        loop = ("while", ("word", 4, 2), side)
        again = ("t", ("again", ("word", 4, 2), side))
        self.assertEqual(behind([loop], ticks=1), (("t", ("test", ("word", 4, 2), side)),))
        self.assertEqual(behind([loop], ticks=2), (act("rest"), again))
        self.assertEqual(behind([loop], ticks=3), (again,))
        self.assertEqual(behind([loop], ticks=4), begin(loop))
        self.assertEqual(behind([("while", ("word", 4, 0), side)], ticks=2), ())
        self.assertEqual(behind([("while", ("word", 4, 1), ())], ticks=2), (("t", ("again", ("word", 4, 1), ())),))

    def test_args_in_calls_belong_to_who_calls(self):
        program = (FULL[0], (), (), (
            ("f", (("x", None, 4),), (), (), ("name", "x")),
            ("g", (("x", None, 4),), (), (("set", "x", ("call", "f", (("name", "x"),))),), ("name", "x")),
        ), (("t", (("x", None, 4),), (("out", 0, ("call", "g", (("name", "x"),))),)),))
        state = start_program(program, NO_WORDS)
        for _ in range(2):
            state = step_program(program, state)[0]
        self.assertEqual(state[4][0][0], (act("local", 2), act("keep", 1), ("f", ("name", "x")), act("keep", 2),
                                          ("g", ("name", "x")), act("out", 0)))


if __name__ == "__main__":
    unittest.main()
