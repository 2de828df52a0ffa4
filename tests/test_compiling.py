"""Promises [47] and [51], and [50] for compiled images."""
import unittest

from lookalike.code import is_image, successors
from lookalike.codetexts import image_text, read_image
from lookalike.compiling import code_sizes, compiled, spots
from lookalike.errors import InvalidProgram
from lookalike.labels import labelled
from lookalike.likeness import likeness
from lookalike.machine import run_image, whole_run
from lookalike.meaning import run_program
from lookalike.orders import order_of
from lookalike.programs import is_program
from plaincode import PlainCode, plain_image
from randomprograms import made_programs
from samples import FULL, ORDER, SMALL, with_block
from wrongvalues import same

A, B, FOUR = ("name", "a"), ("name", "b"), ("word", 4, 3)
THREAD = ("t", (("a", None, 4),), (("take", "a", 0), ("if", A, (("skip", 1),), (("skip", 1),)), ("out", 0, A)))
EXAMPLE = (order_of(1, []), (), (), (), (THREAD,))


def code_of(*block):
    """The code of a thread with this block."""
    return compiled(labelled(with_block(*block)))[3][0][1]


class CompiledTest(unittest.TestCase):
    def test_example(self):
        image, like = compiled(EXAMPLE), likeness(EXAMPLE, compiled(EXAMPLE))
        self.assertEqual((image[3][0][1], code_sizes(EXAMPLE)),
                         ((("take", 0, 4), ("keep", 0), ("local", 0), ("else", 6), ("rest",), ("jump", 8), ("rest",), ("rest",),
                           ("local", 0), ("out", 0), ("end",)), (11,)))
        self.assertEqual((like[0][4] == like[0][6], like[0][8], spots(EXAMPLE)[0][3:6]),
                         (True, (("", ("local", 0)), ("", ("out", 0))), (("t", (1,)), ("t", (1, 0, 0)), ("t", (1,)))))

    def test_parts(self):
        self.assertEqual(compiled(program=SMALL), (ORDER, (((0,), 8, 3),), (), (((4,), (
            ("take", 1, 4), ("keep", 0), ("local", 0), ("else", 9), ("local", 0), ("push", 4, 1), ("op", "add", 4), ("keep", 0),
            ("jump", 10), ("rest",), ("local", 0), ("out", 1), ("end",))),)))
        program = (ORDER, (("b", (0,), 8, 3), ("c", (), 1, 1)), (("r", (0, 1), 2, 5),), (), (("t", (), ()), ("u", (("x", None, 16),), ())))
        self.assertEqual(compiled(program), (ORDER, (((0,), 8, 3), ((), 1, 1)), (((0, 1), 2, 5),),
                                             (((), (("end",),)), ((16,), (("end",),)))))

    def test_each_statement(self):
        rest, end = ("rest",), ("end",)
        condition = ("local", 0)
        for block, code in (
                ((), ()), ((("skip", 2),), (rest, rest)), ((("skip", 0),), ()), ((("out", 1, FOUR),), (("push", 4, 3), ("out", 1))),
                ((("set", "c", ("name", "c")),), (("box", 0), ("fill", 0))), ((("take", "c", 1),), (("take", 1, 8), ("fill", 0))),
                ((("put", "r", A, FOUR),), (condition, ("push", 4, 3), ("cells", 0))),
                ((("out", 0, ("at", "r", B)),), (("local", 1), ("cell", 0), ("out", 0))),
                ((("out", 0, ("op", "lt", A, FOUR)),), (condition, ("push", 4, 3), ("op", "lt", 4), ("out", 0))),
                ((("out", 0, ("call", "f", (A, B))),), (condition, ("local", 1), ("keep", 3), ("keep", 2), ("local", 2), ("out", 0))),
                ((("if", A, (), ()),), (condition, ("else", 3), ("jump", 4), rest)),
                ((("if", A, (), (("skip", 1),)),), (condition, ("else", 3), ("jump", 5), rest, rest)),
                ((("while", A, ()),), (condition, ("else", 3), ("jump", 0))),
                ((("skip", 1), ("while", A, (("skip", 1),)), ("skip", 1)), (rest, condition, ("else", 5), rest, ("jump", 1), rest)),
                ((("times", 0, (("skip", 5),)),), ()), ((("times", 3, (("skip", 1),)),), (rest, rest, rest)),
                ((("times", 2, (("times", 2, (("out", 0, FOUR),)),)),), (("push", 4, 3), ("out", 0)) * 4),
                ((("times", 2, (("while", A, ()),)),), (condition, ("else", 3), ("jump", 0), condition, ("else", 6), ("jump", 3)))):
            self.assertEqual(code_of(*block), (*code, end), block)

    def test_open_lots(self):
        for program in (with_block(), FULL, (ORDER, (("b", None, 1, 0),), (), (), (("t", (), ()),)),
                        (ORDER, (), (("r", (), 1, 1), ("q", None, 1, 1)), (), (("t", (), ()),))):
            self.assertTrue(is_program(program))
            with self.assertRaises(InvalidProgram) as caught:
                compiled(program)
            self.assertEqual(caught.exception.at, 0)
        # Those of locals do not matter.
        self.assertEqual(compiled(EXAMPLE)[3][0][0], (4,))
        self.assertEqual(compiled(labelled(FULL))[1], (((), 8, 255), ((), 1, 0)))

    def test_as_told_another_way(self):
        sizes = 0
        for _, program in made_programs(300):
            program = labelled(program)
            image = compiled(program)
            self.assertTrue(same(image, plain_image(program)))
            self.assertTrue(is_image(image))
            self.assertEqual(read_image(image_text(image)), image)
            sizes += sum(code_sizes(program))
        self.assertGreater(sizes, 20000)

    def test_no_instruction_is_in_vain(self):
        for program in (labelled(FULL), *[labelled(program) for _, program in made_programs(150)]):
            for _, code in compiled(program)[3]:
                reached, waiting = {0}, [0]
                while waiting:
                    nexts = set(successors(code, waiting.pop())) - reached
                    reached |= nexts
                    waiting += nexts
                self.assertEqual(len(reached), len(code))

    def test_records(self):
        some = 0
        for maker, program in made_programs(250):
            program = labelled(program)
            image = compiled(program)
            inputs = maker.input(program[0])
            for ticks in (0, 7, 200):
                record = run_image(image, inputs, ticks)
                self.assertTrue(same(record, run_program(program, inputs, ticks)))
                some += len(record)
        self.assertGreater(some, 300)

    def test_calls_of_several_functions(self):
        inner = ("f", (("x", None, 4),), (("y", None, 4),), (("set", "y", ("op", "add", ("name", "x"), FOUR)),), ("name", "y"))
        outer = ("g", (), (), (("if", ("call", "f", (FOUR,)), (("out", 0, ("call", "f", (FOUR,))),), ()),), ("call", "f", (("word", 4, 1),)))
        block = (("out", 1, ("op", "add", ("call", "g", ()), ("call", "f", (("call", "g", ()),)))),)
        program = (ORDER, (), (), (inner, outer), (("t", (), block), ("u", (), block)))
        image = compiled(program)
        self.assertEqual(image, plain_image(program))
        record, ticks = whole_run(image, ((), ()), 1000)
        self.assertEqual([deed[2] for _, deed in record if deed[0] == "out"], [6, 6, 6, 6, 11, 11])
        self.assertEqual(record, run_program(program, ((), ()), ticks))


class SizeTest(unittest.TestCase):
    def test_sizes(self):
        for program in (labelled(FULL), SMALL, *[labelled(program) for _, program in made_programs(200)]):
            self.assertEqual(code_sizes(program=program), tuple(len(code) for _, code in compiled(program)[3]))

    def test_sizes_that_are_too_large_to_be_made(self):
        block = (("if", A, (("skip", 1),), (("while", A, ()),)),)
        nothing = ()
        for _ in range(48):
            block, nothing = (("times", 64, block),), (("times", 64, nothing),)
        self.assertEqual(code_sizes(with_block(*block)), (64 ** 48 * 8 + 1,))
        self.assertEqual(code_sizes(with_block(*nothing, ("skip", 10 ** 3999))), (10 ** 3999 + 1,))
        functions = [("f0", (("x", None, 4),), (("y", None, 4),), (), FOUR)]
        size = 1 + 2 + 1
        for number in range(1, 20):
            call = ("call", f"f{number - 1}", (FOUR,))
            functions.append((f"f{number}", (("x", None, 4),), (), (("set", "x", call),) * 399, call))
            size = 1 + 399 * (1 + size + 1) + 1 + size
        program = (ORDER, (), (), tuple(functions), (("t", (), (("out", 0, ("call", "f19", (FOUR,))),)),))
        self.assertTrue(is_program(program))
        self.assertEqual(code_sizes(program), (1 + size + 1 + 1,))

    def test_rounds_without_code(self):
        nothing = (("skip", 0), ("times", 0, (("out", 0, FOUR),)))
        for _ in range(49):
            nothing = (("times", 64, nothing),)
        self.assertEqual(code_of(*nothing), (("end",),))
        program = labelled(with_block(("times", 3, nothing + (("skip", 1),) + nothing), ("if", A, nothing, nothing), ("while", A, nothing)))
        code = compiled(program)[3][0][1]
        self.assertEqual(code, (("rest",),) * 3 + (("local", 0), ("else", 6), ("jump", 7), ("rest",), ("local", 0), ("else", 10), ("jump", 7),
                                                   ("end",)))
        self.assertEqual(len(spots(program)[0]), 11)
        self.assertEqual(likeness(program, compiled(program))[0][-1], ())


class SpotsTest(unittest.TestCase):
    def test_small(self):
        block = (("take", "a", 0), ("if", A, (("skip", 2),), (("out", 0, A),)), ("while", A, (("set", "a", FOUR),)))
        t = [("t", (index,)) for index in range(3)]
        inner = [("t", (1, 0, 0)), ("t", (1, 1, 0)), ("t", (2, 0, 0))]
        self.assertEqual(spots(program=with_block(*block)), ((
            t[0], t[0], t[1], t[1], inner[0], inner[0], t[1], inner[1], inner[1], t[1], t[2], t[2], inner[2], inner[2], t[2], ("t", ())),))

    def test_functions(self):
        inner = ("f", (("x", None, 4),), (("y", None, 4),), (("set", "y", ("name", "x")),), ("name", "y"))
        outer = ("g", (), (), (), ("call", "f", (FOUR,)))
        block = (("out", 0, FOUR), ("out", 0, ("op", "add", ("call", "g", ()), ("call", "f", (FOUR,)))))
        program = (ORDER, (), (), (inner, outer), (("t", (), block),))
        f, result = [("f", (0,))] * 2, ("f", ())
        first = [("t", (0,))] * 2
        # The arg, keep, push and keep of the call in g belong to its result, those in t to the statement.
        called = [("g", ())] * 4 + f + [result]
        own = [("t", (1,))] * 4 + f + [result]
        self.assertEqual(spots(program)[0], tuple(first + called + own + [("t", (1,))] * 2 + [("t", ())]))

    def test_copies_are_the_same(self):
        block = (("out", 0, FOUR), ("if", A, (("skip", 1),), ()))
        once = spots(with_block(("times", 1, block)))[0]
        self.assertEqual(once[:2], (("t", (0, 0, 0)),) * 2)
        self.assertEqual(spots(with_block(("times", 3, block)))[0], once[:-1] * 3 + once[-1:])
        self.assertEqual(spots(with_block(("times", 2, (("times", 2, block),)), ("skip", 1)))[0][:2], (("t", (0, 0, 0, 0, 0)),) * 2)
        function = ("f", (), (), (("times", 2, (("skip", 1),)),), FOUR)
        call = ("out", 0, ("call", "f", ()))
        program = (ORDER, (), (), (function,), (("t", (), (call, call)), ("u", (), (call,))))
        copy = (("f", (0, 0, 0)),) * 2 + (("f", ()),)
        self.assertEqual(spots(program), (copy + (("t", (0,)),) + copy + (("t", (1,)), ("t", ())), copy + (("u", (0,)), ("u", ()))))

    def test_as_told_another_way(self):
        for program in (FULL, *[program for _, program in made_programs(200)]):
            told = spots(program)
            for thread in range(len(program[4])):
                self.assertTrue(same(told[thread], tuple(spot for _, spot in PlainCode(program, thread).code())))
            self.assertEqual(tuple(map(len, told)), code_sizes(program))


if __name__ == "__main__":
    unittest.main()
