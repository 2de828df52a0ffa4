"""Promise [18]."""
import unittest

from lookalike.meaning import start_program, step_program
from lookalike.moments import acts_of, choices_made
from plain import Plain
from randomprograms import made_programs
from samples import SMALL, with_block

A = ("name", "a")


class ChoicesTest(unittest.TestCase):
    def test_example(self):
        thread = ("t", (("a", None, 4),), (("take", "a", 0), ("if", A, (("out", 0, A),), ())))
        program = (((0,),), (), (), (), (thread, ("u", (), ())))
        self.assertEqual(choices_made(program, ((5,),), 0, 9), (1,))

    def test_cut(self):
        self.assertEqual([choices_made(SMALL, ((), (5,)), 0, ticks) for ticks in (0, 3, 4, 50)], [(), (), (1,), (1,)])
        self.assertEqual(choices_made(program=SMALL, inputs=((), (16,)), thread=0, ticks=4), (0,))

    def test_as_told_another_way(self):
        some = 0
        for maker, program in made_programs(200):
            inputs = maker.input(program[0])
            ticks = maker.random.choice([0, 30, 200])
            plain = Plain(program, inputs)
            plain.record(ticks)
            for thread in range(len(program[4])):
                self.assertEqual(choices_made(program, inputs, thread, ticks), tuple(plain.choices[thread]))
                some += len(plain.choices[thread])
        self.assertGreater(some, 500)


class ActsTest(unittest.TestCase):
    def test_choices(self):
        first = (("take", 1, 4), ("keep", 0), ("local", 0), ("choose",))
        last = (("rest",), ("local", 0), ("out", 1), ("end",))
        self.assertEqual(acts_of(program=SMALL, thread=0, choices=()), first)
        self.assertEqual(acts_of(SMALL, 0, (0,)), first + last)
        self.assertEqual(acts_of(SMALL, 0, (0, 1, 1)), first + last)
        self.assertEqual(acts_of(SMALL, 0, (1,)), first + (("local", 0), ("push", 4, 1), ("op", "add", 4), ("keep", 0)) + last)

    def test_tests(self):
        program = with_block(("while", A, (("skip", 1),)), ("skip", 2))
        ahead = (("local", 0), ("test",))
        around = ahead + (("rest",), ("again",))
        self.assertEqual(acts_of(program, 0, ()), ahead)
        self.assertEqual(acts_of(program, 0, (1,)), around + ahead)
        self.assertEqual(acts_of(program, 0, (1, 1, 0)), around * 2 + ahead + (("rest",), ("rest",), ("end",)))

    def test_no_choices(self):
        self.assertEqual(acts_of(with_block(), 0, ()), (("end",),))
        self.assertEqual(acts_of(with_block(("times", 3, (("skip", 1),))), 0, ()), (("rest",),) * 3 + (("end",),))

    def test_what_is_done_is_a_beginning_of_what_choices_tell(self):
        for maker, program in made_programs(120):
            state = start_program(program, maker.input(program[0]))
            inputs = state[3]
            many = len(program[4])
            done = [[] for _ in program[4]]
            for tick in range(90):
                thread = tick % many
                if state[4][thread] is not None:
                    todo = state[4][thread][0]
                    work = todo[0][1] if todo else ("end",)
                    done[thread].append((work[0],) if work[0] in ("choose", "test", "again") else work)
                state = step_program(program, state)[0]
            for thread in range(many):
                told = acts_of(program, thread, choices_made(program, inputs, thread, 90))
                self.assertEqual(told[:len(done[thread])], tuple(done[thread]))


if __name__ == "__main__":
    unittest.main()
