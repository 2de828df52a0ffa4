"""Promises [36] and [37]."""
import itertools
import unittest

from lookalike.errors import InvalidQuestion
from lookalike.knots import flows
from lookalike.labels import least_labels
from lookalike.meaning import run_program
from lookalike.padding import padded, padded_program, rests_in
from lookalike.programs import is_program
from lookalike.refusing import refusing_row
from lookalike.sides import closed_ifs, even_ifs, secret_ifs, timed_ifs
from lookalike.spans import block_span, thread_spans, told_time
from randomprograms import made_programs
from samples import FULL, ORDER, with_block
from test_sides import A, C, DEEP, EMPTY, EXAMPLE, FOUR, program_with
from ways import all_blocks, statement_at
from wrongvalues import NO_TUPLES, of_other_kinds, same


def without_new(old, new):
    """Whether a block is another one, but for "skip"s at the ends of sides."""
    if len(new) not in (len(old), len(old) + 1):
        return False
    if len(new) > len(old) and new[-1][0] != "skip":
        return False
    for one, other in zip(old, new):
        sides = {"if": 2, "while": 1, "times": 1}.get(one[0], 0)
        cut = len(one) - sides
        if one[:cut] != other[:cut] or len(one) != len(other):
            return False
        if not all(without_new(a, b) for a, b in zip(one[cut:], other[cut:])):
            return False
        if one[0] in ("while", "times") and len(one[-1]) != len(other[-1]):
            return False
    return True


def all_rests(program, block):
    """The slots of the "skip"s in a block with all that is put in."""
    functions = {function[0]: function for function in program[3]}

    def in_expression(part):
        if part[0] == "call":
            function = functions[part[1]]
            return sum(map(in_expression, part[2])) + all_rests(program, function[3]) + in_expression(function[4])
        return sum(in_expression(inner) for inner in part if isinstance(inner, tuple))

    many = 0
    for statement in block:
        word = statement[0]
        if word == "skip":
            many += statement[1]
        elif word == "times":
            many += sum(all_rests(program, statement[2]) for _ in range(statement[1]))
        elif word in ("if", "while"):
            many += in_expression(statement[1]) + sum(all_rests(program, side) for side in statement[2:])
        else:
            many += sum(in_expression(part) for part in statement if isinstance(part, tuple))
    return many


class PaddedTest(unittest.TestCase):
    def test_example(self):
        self.assertEqual(padded_program(EXAMPLE)[4][0][2][1][2:],
                         ((("if", A, (("set", "a", ("word", 4, 2)),), (("skip", 2),)), ("skip", 1)),
                          (("set", "b", A), ("skip", 4))))
        self.assertEqual((rests_in(EXAMPLE), rests_in(padded_program(EXAMPLE)), rests_in(padded(EXAMPLE, timed_ifs(EXAMPLE)))),
                         ((6,), (12,), (17,)))

    def test_small(self):
        skips = ("if", A, (("skip", 2),), (("skip", 5),))
        for some, block, told in (
                ((), (skips,), (skips,)),
                (((0,),), (skips,), (("if", A, (("skip", 2), ("skip", 3)), (("skip", 5),)),)),
                (((0,),), (EMPTY,), (EMPTY,)),
                (((0,),), (("if", A, (("set", "a", FOUR),), (("skip", 2),)),), (("if", A, (("set", "a", FOUR),), (("skip", 2),)),)),
                (((1,),), (skips, skips), (skips, ("if", A, (("skip", 2), ("skip", 3)), (("skip", 5),)))),
                (((0, 0, 0),), (("times", 4, (skips,)),),
                 (("times", 4, (("if", A, (("skip", 2), ("skip", 3)), (("skip", 5),)),)),)),
                (((0, 0, 0),), (("while", A, (DEEP,)),), (("while", A, (("if", A, DEEP[2], (("skip", 2),)),)),))):
            pairs = tuple(("t", place) for place in some)
            self.assertEqual(padded(program=program_with(*block), some=pairs), program_with(*told))

    def test_functions_come_ahead(self):
        def function(*more):
            return ("f", (("x", None, 4),), (), (("if", ("name", "x"), (("skip", 6),), more),), FOUR)
        call = ("set", "a", ("call", "f", (A,)))
        program = program_with(("if", A, (call,), ()), call, functions=(function(),))
        # The call takes 1 for the arg, 1 for the param, 9 for the choice, 1 for the result, then 1 to keep it.
        told = program_with(("if", A, (call,), (("skip", 13),)), call, functions=(function(("skip", 6)),))
        self.assertEqual(padded(program, (("t", (0,)),)), told)
        self.assertEqual(padded_program(program_with(("take", "a", 1), *program[4][0][2], functions=(function(),)))[3], told[3])

    def test_secrets(self):
        for _, program in made_programs(100):
            self.assertTrue(same(padded_program(program=program), padded(program, secret_ifs(program))))

    def test_wrong_values(self):
        timed = timed_ifs(EXAMPLE)
        for value in (*NO_TUPLES, *of_other_kinds(timed), timed[::-1], timed * 2, (("t", (0,)),), (("u", (1,)),), (("t", (True,)),)):
            with self.assertRaises(InvalidQuestion, msg=value) as caught:
                padded(EXAMPLE, value)
            self.assertEqual(caught.exception.at, 1)


class FactsTest(unittest.TestCase):
    def some_ifs(self, maker, program):
        timed = timed_ifs(program)
        kind = maker.random.choice(["all", "none", "some", "secret"])
        if kind == "secret":
            return secret_ifs(program)
        chance = {"all": 1.1, "none": 0, "some": 0.5}[kind]
        return tuple(pair for pair in timed if maker.flip(chance))

    def test_statements_and_sides(self):
        changed = 0
        for maker, program in made_programs(250):
            some = self.some_ifs(maker, program)
            closed = closed_ifs(program, some)
            program2 = padded(program, some)
            self.assertTrue(is_program(program2))
            self.assertEqual(program2[:3], program[:3])
            for one, other in zip(program[3] + program[4], program2[3] + program2[4]):
                at = 3 if len(one) == 5 else 2
                self.assertTrue(without_new(one[at], other[at]))
                self.assertEqual((len(one[at]), one[:at], one[at + 1:]), (len(other[at]), other[:at], other[at + 1:]))
            changed += program2 != program
            self.assertLessEqual(set(closed), set(even_ifs(program2)))
            self.assertEqual(timed_ifs(program2), timed_ifs(program))
            old_blocks = {(name, place): block for name, place, block in all_blocks(program)}
            blocks = {(name, place): block for name, place, block in all_blocks(program2)}
            for (name, place), block in old_blocks.items():
                span, span2 = block_span(program, block), block_span(program2, blocks[name, place])
                self.assertLessEqual(span[0], span2[0])
                if (name, place[:-1]) in closed:
                    mosts = [block_span(program, side)[1] for side in statement_at(old_blocks[name, ()], place[:-1])[2:]]
                    self.assertEqual(told_time(program2, blocks[name, place]), max(mosts))
                else:
                    self.assertEqual(span[1], span2[1])
            self.assertEqual([span[1] for span in thread_spans(program)], [span[1] for span in thread_spans(program2)])
        self.assertGreater(changed, 60)

    def test_labels(self):
        for maker, program in made_programs(200):
            program2 = padded(program, self.some_ifs(maker, program))
            labels = dict(least_labels(program2))
            for knot, lot in least_labels(program):
                self.assertEqual(labels[knot], lot)
            self.assertEqual(refusing_row(program) is None, refusing_row(program2) is None)
            old = {knot for pair in flows(program) for knot in pair}
            leads = {}
            for knot, target in flows(program2):
                leads.setdefault(knot, []).append(target)
            for knot, target in flows(program):
                waiting, reached = [knot], set()
                while waiting:
                    at = waiting.pop()
                    for other in leads.get(at, []):
                        if other not in reached:
                            reached.add(other)
                            waiting += [] if other in old else [other]
                self.assertIn(target, reached)

    def test_padded_again(self):
        for maker, program in made_programs(200):
            one, other = self.some_ifs(maker, program), self.some_ifs(maker, program)
            program2 = padded(program, one)
            closed = closed_ifs(program, one)
            self.assertTrue(same(padded(program2, one), program2))
            part = tuple(pair for pair in closed if maker.flip(0.5))
            self.assertTrue(same(padded(program2, part), program2))
            # By one lot, then by the other one: it is padded by both together.
            both = padded(program2, other)
            self.assertLessEqual(set(closed) | set(closed_ifs(program, other)), set(even_ifs(both)))
            self.assertEqual(rests_in(both), rests_in(padded(program, tuple(sorted(set(one) | set(other))))))
            self.assertEqual([span for span in thread_spans(both)],
                             [span for span in thread_spans(padded(program, tuple(sorted(set(one) | set(other)))))])

    def test_words_of_one_thread(self):
        some = 0
        for maker, program in made_programs(300):
            program = (*program[:4], program[4][:1])
            program2 = padded(program, self.some_ifs(maker, program))
            inputs = maker.input(program[0])
            record = run_program(program, inputs, 400)
            record2 = run_program(program2, inputs, 4000)
            if record and record[-1][1][0] == "end":
                self.assertEqual([deed for _, deed in record], [deed for _, deed in record2])
                some += record != record2
            else:
                deeds = [deed for _, deed in record]
                self.assertEqual(deeds, [deed for _, deed in record2][:len(deeds)])
        self.assertGreater(some, 20)


class RestsTest(unittest.TestCase):
    def test_rests(self):
        skip = ("skip", 3)
        call = ("set", "a", ("call", "f", (A, ("name", "b"))))
        self.assertEqual(rests_in(program=with_block()), (0,))
        for block, many in (((skip,), 3), ((("times", 5, (skip, skip)),), 30), ((("times", 0, (skip,)),), 0),
                            ((("if", A, (skip,), (skip, ("skip", 1))),), 7), ((("while", A, (skip,)),), 3), ((call,), 0),
                            ((("times", 64, (("times", 64, (skip,)),)),), 3 * 4096)):
            self.assertEqual(rests_in(with_block(*block)), (many,))

    def test_functions(self):
        inner = ("f", (("x", None, 4),), (), (("if", ("name", "x"), (("skip", 2),), ()),), ("name", "x"))
        outer = ("g", (("x", None, 4),), (), (("skip", 10),), ("call", "f", (("call", "f", (FOUR,)),)))
        call = {name: ("call", name, (FOUR,)) for name in "fg"}
        for block, many in (((("set", "a", call["f"]),), 2), ((("set", "a", call["g"]),), 14), ((("while", call["g"], ()),), 14),
                            ((("if", call["f"], (("out", 0, call["f"]),), (("out", 0, call["f"]),)),), 6),
                            ((("times", 3, (("out", 0, ("call", "f", (call["g"],))),)),), 48)):
            self.assertEqual(rests_in(program_with(*block, functions=(inner, outer))), (many,))

    def test_as_told_another_way(self):
        for _, program in made_programs(200):
            self.assertEqual(rests_in(program), tuple(all_rests(program, thread[2]) for thread in program[4]))
        self.assertEqual(rests_in(FULL), tuple(all_rests(FULL, thread[2]) for thread in FULL[4]))

    def test_large_ones(self):
        block = (("skip", 1),)
        nothing = ()
        for _ in range(49):
            block, nothing = (("times", 64, block),), (("times", 64, nothing),)
        program = program_with(("if", A, block, nothing), *nothing)
        self.assertEqual(rests_in(program), (64 ** 49,))
        told = padded(program, (("t", (0,)),))
        self.assertEqual(told[4][0][2][0][3], (*nothing, ("skip", 64 ** 49)))
        self.assertEqual(rests_in(told), (2 * 64 ** 49,))
        functions = [("f0", (), (), (("skip", 1),), FOUR)]
        for number in range(1, 20):
            call = ("call", f"f{number - 1}", ())
            functions.append((f"f{number}", (), (), (("out", 0, call),) * 9, call))
        self.assertEqual(rests_in((ORDER, (), (), tuple(functions), (("t", (), (("out", 0, ("call", "f19", ())),)),))), (10 ** 19,))

    def test_fewest_rests(self):
        """All ways to put in up to four rests at the ends of sides and ahead of them."""
        inner = ("if", C, (("skip", 1),), (("skip", 2),))
        outer = ("if", A, (inner,), (("skip", 4),))
        program = (ORDER, (), (), (), (("t", (("a", None, 4), ("c", None, 4)), (outer,)),))
        least = padded(program, timed_ifs(program))
        fitting = 0
        for rests in itertools.product(range(4), repeat=7):
            skip = [(("skip", many),) if many else () for many in rests]
            inside = ("if", C, skip[0] + inner[2] + skip[1], inner[3] + skip[2])
            block = skip[3] + (("if", A, skip[4] + (inside,) + skip[5], outer[3] + skip[6]),)
            value = (*program[:4], (("t", program[4][0][1], block),))
            if len(even_ifs(value)) == 2:
                fitting += 1
                self.assertLessEqual(rests_in(least), rests_in(value))
                self.assertLessEqual(thread_spans(least)[0][1], thread_spans(value)[0][1])
        self.assertGreater(fitting, 50)


if __name__ == "__main__":
    unittest.main()
