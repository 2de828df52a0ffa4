"""Promises [48] to [50]."""
import itertools
import unittest

from lookalike.code import is_image
from lookalike.compiling import compiled
from lookalike.labels import labelled
from lookalike.likeness import likeness, machine_states, source_state
from lookalike.machine import run_image, step_image
from lookalike.meaning import run_program, start_program, step_program
from lookalike.states import start_state
from plaincode import plain_likeness
from randomimages import ImageMaker
from randomprograms import made_programs
from samples import FULL, ORDER, SMALL
from test_compiling import EXAMPLE
from wrongvalues import replaced, same

A, FOUR = ("name", "a"), ("word", 4, 3)
REST, END = ("rest",), ("end",)


def told(*block):
    """A program with one local, and no open lots but its own."""
    return (ORDER, (), (), (), (("t", (("a", None, 4),), tuple(block)),))


def image_of(*code, widths=(4,)):
    return (ORDER, (), (), ((widths, tuple(code)),))


def like(program, image):
    """The likeness of one thread."""
    value = likeness(program, image)
    return None if value is None else value[0]


def work(todo):
    return tuple(task[1][0] for task in todo)


def with_code(image, thread, code):
    return replaced(image, (3, thread, 1), tuple(code))


def moved(code, change):
    """The code with other rows to go to."""
    return [(part[0], change(row, part[1])) if part[0] in ("jump", "else") else part for row, part in enumerate(code)]


def another_image(maker, program, image):
    """An image with a likeness, made of one in some way."""
    thread = maker.random.randrange(len(image[3]))
    code = list(image[3][thread][1])
    todos = likeness(program, image)[thread]
    many = len(code)
    way = maker.random.choice(["jumps", "copy", "equal", "vain", "away"])
    if way == "jumps":
        code = [("jump", row + 1) if part == REST and maker.flip(0.5) else part for row, part in enumerate(code)]
    elif way == "copy":
        # Rows from some one on stand twice; who jumps goes to either of both.
        first = maker.random.randrange(many)
        copies = moved(code[first:], lambda row, to: to - first + many if to >= first and maker.flip(0.7) else to)
        code = moved(code, lambda row, to: to - first + many if to >= first and maker.flip(0.5) else to) + copies
    elif way == "equal":
        # Who jumps goes to any row with the same left to do.
        def equal(row, to):
            return maker.random.choice([at for at in range(many) if todos[at] == todos[to]]) if todos[to] is not None else to
        code = [("jump", row + 1) if part == REST and maker.flip(0.5) else part for row, part in enumerate(code)]
        code = moved(code, equal)
    elif way == "vain":
        at = maker.random.randrange(many)
        if at == 0 or code[at - 1][0] in ("jump", "end"):
            shift = (lambda row, to: to + 1 if to >= at else to) if at > 0 else (lambda row, to: to)
            code = moved(code, shift)
            code = code[:at] + [("out", 0)] + code[at:] if at > 0 else code
    else:
        # Rows to which nothing leads are left out.
        kept = [row for row in range(many) if todos[row] is not None]
        code = [part for row, part in enumerate(moved(code, lambda row, to: kept.index(to) if to in kept else 0)) if row in kept]
    return with_code(image, thread, code)


class LikenessTest(unittest.TestCase):
    def test_compiled_ones(self):
        rows = 0
        for program in (EXAMPLE, SMALL, labelled(FULL), *[labelled(program) for _, program in made_programs(200)]):
            image = compiled(program)
            value = likeness(program=program, image=image)
            self.assertEqual([len(todos) for todos in value], [len(code) for _, code in image[3]])
            for todos in value:
                self.assertNotIn(None, todos)
                self.assertEqual(todos[-1], ())
                rows += len(todos)
            self.assertTrue(same(value, plain_likeness(program, image)))
        self.assertGreater(rows, 10000)

    def test_shorter_ones(self):
        code = compiled(EXAMPLE)[3][0][1]
        short = (*code[:3], ("else", 4), REST, REST, *code[8:])
        todos = like(EXAMPLE, (EXAMPLE[0], (), (), (((4,), short),)))
        self.assertEqual([work(todo) for todo in todos[3:7]],
                         [("choose", "out"), ("rest", "rest", "out"), ("rest", "out"), ("local", "out")])
        program = told(("while", ("word", 1, 1), (("while", ("word", 1, 1), ()),)))
        self.assertEqual(len(compiled(program)[3][0][1]), 7)
        self.assertIsNone(likeness(program, image_of(("push", 1, 1), ("else", 3), ("jump", 0), END)))
        program = told(("if", A, (("skip", 1),), (("skip", 1),)), ("if", A, (), ()))
        self.assertIsNotNone(likeness(program, image_of(("local", 0), ("else", 2), REST, REST, ("local", 0), ("else", 6), REST, END)))

    def test_longer_ones(self):
        program = told(("while", A, (("skip", 1),)))
        local = ("local", 0)
        unrolled = image_of(local, ("else", 8), REST, REST, local, ("else", 8), ("jump", 7), ("jump", 0), END)
        todos = like(program, unrolled)
        self.assertEqual(todos[0], todos[4])
        self.assertEqual([work(todo) for todo in todos[2:4]], [("rest", "again"), ("again",)])
        self.assertEqual(todos[8], ())
        more = image_of(local, ("else", 5), REST, ("jump", 0), ("out", 1), END, ("jump", 6))
        self.assertEqual(like(program, more), (*like(program, compiled(program))[:4], None, (), None))
        two_ends = image_of(local, ("else", 5), REST, ("jump", 0), END, END)
        self.assertEqual([todo is None for todo in like(program, two_ends)], [False] * 4 + [True, False])

    def test_what_rests_may_be(self):
        program = told(("skip", 2), ("out", 0, FOUR))
        out = (("push", 4, 3), ("out", 0), END)
        for code in ((REST, REST, *out), (("jump", 1), ("jump", 2), *out), (("jump", 4), *out, ("jump", 1)),
                     (REST, ("jump", 3), END, *out)):
            self.assertIsNotNone(likeness(program, image_of(*code)), code)
        for code in ((REST, *out), (REST, REST, REST, *out), (("jump", 0),), (REST, ("jump", 1)), (REST, ("jump", 0), *out),
                     (("push", 4, 3), ("else", 2), *out), (END,), (REST, REST, END)):
            self.assertIsNone(likeness(program, image_of(*code)), code)

    def test_ones_without(self):
        program = told(("if", A, (("skip", 1),), ()), ("set", "a", FOUR))
        code = compiled(program)[3][0][1]
        self.assertEqual(code, (("local", 0), ("else", 4), REST, ("jump", 5), REST, ("push", 4, 3), ("keep", 0), END))
        self.assertIsNotNone(likeness(program, image_of(*code)))
        for row, part in ((0, ("push", 4, 0)), (0, REST), (1, ("else", 5)), (1, ("else", 2)), (1, ("else", 6)), (1, ("jump", 2)), (1, REST),
                          (2, ("jump", 5)), (2, ("local", 0)), (3, ("jump", 6)), (3, ("else", 5)), (3, END), (4, ("out", 0)), (4, ("jump", 0)),
                          (5, ("push", 4, 2)), (5, ("push", 8, 3)), (5, ("local", 0)), (6, ("out", 0)), (6, END), (7, ("jump", 0)), (7, ("jump", 7))):
            self.assertIsNone(likeness(program, image_of(*code[:row], part, *code[row + 1:])), (row, part))
        # These do the same.
        for row, part in ((1, ("else", 3)), (1, ("else", 4)), (2, ("jump", 3)), (2, ("jump", 4)), (3, ("jump", 5)), (4, ("jump", 5))):
            self.assertIsNotNone(likeness(program, image_of(*code[:row], part, *code[row + 1:])), (row, part))

    def test_unlike_todos_at_one_row(self):
        program = told(("times", 2, (("skip", 1),)))
        self.assertIsNotNone(likeness(program, image_of(REST, REST, END)))
        self.assertIsNone(likeness(program, image_of(REST, ("jump", 0), END)))
        program = told(("if", A, (), ()))
        self.assertIsNotNone(likeness(program, image_of(("local", 0), ("else", 2), REST, END)))
        program = told(("if", A, (("skip", 1),), ()))
        self.assertIsNone(likeness(program, image_of(("local", 0), ("else", 2), REST, REST, END)))
        # The same is done behind either of both, but not the same is left to do.
        program = told(("if", A, (("skip", 1),), (("times", 1, (("skip", 1),)),)))
        self.assertIsNone(likeness(program, image_of(("local", 0), ("else", 2), REST, REST, END)))

    def test_other_parts(self):
        program = (ORDER, (("b", (0,), 8, 3), ("c", (), 1, 1)), (("r", (1,), 4, 2),), (), (("t", (("a", None, 4),), ()), ("u", (), ())))
        image = compiled(program)
        self.assertEqual(likeness(program, image), (((),), ((),)))
        for path, part in (((0,), ((0,), (1,))), ((1,), ()), ((1, 0), ((0,), 8, 4)), ((1, 0), ((0,), 16, 3)), ((1, 0), ((0, 1), 8, 3)),
                           ((1,), image[1][::-1]), ((2,), ()), ((2, 0), ((1,), 4, 3)), ((2, 0), ((), 4, 2)), ((2, 0), ((1,), 2, 2)),
                           ((3,), image[3][:1]), ((3,), image[3] + image[3][1:]), ((3, 0, 0), ()), ((3, 0, 0), (2,)), ((3, 0, 0), (4, 4)),
                           ((3, 1, 0), (4,)), ((3,), image[3][::-1])):
            self.assertTrue(is_image(replaced(image, path, part)))
            self.assertIsNone(likeness(program, replaced(image, path, part)), (path, part))

    def test_open_lots(self):
        program = (ORDER, (("b", None, 8, 3),), (), (), (("t", (), ()),))
        self.assertIsNone(likeness(program, compiled(labelled(program))))
        self.assertIsNotNone(likeness(labelled(program), compiled(labelled(program))))

    def test_images_of_anyone(self):
        kinds = {"longer": 0, "shorter": 0, "vain": 0}
        for maker, program in made_programs(120):
            program = labelled(program)
            inputs = maker.input(program[0])
            record = run_program(program, inputs, 150)
            image = compiled(program)
            size = sum(len(code) for _, code in image[3])
            for _ in range(5):
                image = another_image(maker, program, image)
                self.assertTrue(is_image(image))
                value = likeness(program, image)
                self.assertTrue(same(value, plain_likeness(program, image)))
                self.assertIsNotNone(value)
                self.assertTrue(same(run_image(image, inputs, 150), record))
                kinds["vain"] += any(None in todos for todos in value)
                kinds["longer"] += sum(len(code) for _, code in image[3]) > size
                kinds["shorter"] += sum(len(code) for _, code in image[3]) < size
                if sum(len(code) for _, code in image[3]) > 500:
                    break
        self.assertGreater(min(kinds.values()), 10)

    def test_changed_images(self):
        found = [0, 0]
        for maker, program in made_programs(200):
            program = labelled(program)
            image = compiled(program)
            images = ImageMaker(maker.random.randrange(10 ** 6))
            for _ in range(8):
                thread = maker.random.randrange(len(image[3]))
                widths, code = image[3][thread]
                images.levels, images.boxes, images.rows, images.places, images.many = *image[:3], widths, len(code)
                row = maker.random.randrange(len(code))
                other = with_code(image, thread, [*code[:row], images.instruction(), *code[row + 1:]])
                if is_image(other):
                    value = likeness(program, other)
                    self.assertTrue(same(value, plain_likeness(program, other)))
                    found[value is None] += 1
                    if value is not None:
                        inputs = maker.input(program[0])
                        self.assertEqual(run_image(other, inputs, 90), run_program(program, inputs, 90))
        self.assertGreater(found[0], 4)
        self.assertGreater(found[1], 300)


class StatesTest(unittest.TestCase):
    def test_small(self):
        image = compiled(EXAMPLE)
        value = likeness(EXAMPLE, image)
        state = (4, (), (), ((),), ((6, (5,), (1,)),))
        rest = ("", REST)
        behind = (rest, rest, ("t", ("out", 0, A)))
        self.assertEqual(source_state(value=value, state=state), (4, (), (), ((),), ((behind, (5,), (1,)),)))
        self.assertEqual(machine_states(value=value, state=(4, (), (), ((),), ((behind, (5,), (1,)),))),
                         tuple((4, (), (), ((),), ((row, (5,), (1,)),)) for row in (4, 6)))
        self.assertEqual(source_state(value, (9, (), (), ((),), (None,))), (9, (), (), ((),), (None,)))
        self.assertEqual(machine_states(value, (9, (), (), ((),), (None,))), ((9, (), (), ((),), (None,)),))
        self.assertEqual(machine_states(value, (4, (), (), ((),), ((behind * 2, (5,), (1,)),))), ())

    def test_several_threads(self):
        program = (ORDER, (), (), (), (("t", (), (("while", ("word", 1, 1), ()),)), ("u", (), (("skip", 1),))))
        image = (ORDER, (), (), (((), (("push", 1, 1), ("else", 6), REST, ("push", 1, 1), ("else", 6), ("jump", 0), END)), ((), (REST, END))))
        value = likeness(program, image)
        start = start_program(program, ((), ()))
        self.assertEqual(machine_states(value, start), tuple((*start[:4], ((row, (), ()), (0, (), ()))) for row in (0, 3)))
        for threads in itertools.product((*[(row, (), ()) for row in range(7)], None), ((0, (), ()), (1, (), ()), None)):
            state = (0, (), (), ((), ()), threads)
            source = source_state(value, state)
            states = machine_states(value, source)
            self.assertIn(state, states)
            self.assertEqual(states, tuple(sorted(states, key=lambda told: [-1 if part is None else part[0] for part in told[4]])))
            self.assertTrue(all(source_state(value, other) == source for other in states))
        never = (*start[:4], ((start[4][0][0] * 2, (), ()), None))
        self.assertEqual(machine_states(value, never), ())

    def test_many_rows_that_none_of_the_program_is_like(self):
        loop = ("while", ("word", 1, 1), ())
        code = ()
        for number in range(900):
            code += (("push", 1, 1), ("else", 2700), ("jump", 3 * number + 3) if number < 899 else ("jump", 0))
        program = (ORDER, (), (), (), tuple((name, (), (loop,)) for name in "abcdefgh"))
        value = likeness(program, (ORDER, (), (), (((), (*code, END)),) * 8))
        start = start_program(program, ((), ()))
        never = (*start[:4], (*start[4][:7], ((("", REST),), (), ())))
        self.assertEqual(machine_states(value, never), ())
        alone = (*start[:4], (start[4][0], *[None] * 7))
        self.assertEqual(len(machine_states(value, alone)), 900)

    def test_side_by_side(self):
        several = 0
        for maker, program in made_programs(120):
            program = labelled(program)
            image = compiled(program)
            for _ in range(maker.random.randint(0, 3)):
                image = another_image(maker, program, image)
            value = likeness(program, image)
            inputs = maker.input(program[0])
            state, source = start_state(image, inputs), start_program(program, inputs)
            for _ in range(60):
                self.assertTrue(same(source_state(value, state), source))
                rows = 1
                for todos in value:
                    rows *= len(todos) + 1
                if rows < 400:
                    states = machine_states(value, source)
                    self.assertIn(state, states)
                    several += len(states) > 1
                    plain = [other for other in self.states_of_rows(value, state) if same(source_state(value, other), source)]
                    self.assertTrue(same(states, tuple(plain)))
                state, deeds = step_image(image, state)
                source, told_deeds = step_program(program, source)
                self.assertEqual(deeds, told_deeds)
        self.assertGreater(several, 30)

    def states_of_rows(self, value, state):
        """The states that stand in any rows, but hold the same."""
        rows = [[None] if parts is None else [(row, *parts[1:]) for row, todo in enumerate(todos) if todo is not None]
                for todos, parts in zip(value, state[4])]
        return [(*state[:4], threads) for threads in itertools.product(*rows)]


if __name__ == "__main__":
    unittest.main()
