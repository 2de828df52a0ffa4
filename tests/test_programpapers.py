"""Promise [63]."""
import unittest

from lookalike.checker import is_checked, paper_fault
from lookalike.clocks import moment_lots
from lookalike.compiling import compiled, spots
from lookalike.faults import is_let_by
from lookalike.labels import labelled, program_ends
from lookalike.leastpapers import is_harmless
from lookalike.machine import run_image
from lookalike.meetings import code_regions
from lookalike.orders import covered, joined_lots
from lookalike.padding import padded_program
from lookalike.papers import end_lots
from lookalike.programpapers import program_paper
from lookalike.records import seen
from lookalike.sides import even_ifs, timed_ifs
from lookalike.spans import told_time
from letbyprograms import let_by_programs
from plaincode import plain_image
from plainpapers import plain_least
from randomprograms import made_programs
from samples import FULL, ORDER, SMALL, with_block
from test_meetings import END, REST
from ways import all_blocks

A, FOUR = ("name", "a"), ("word", 4, 3)


def all_programs(many=3):
    return [*made_programs(25 * many), *let_by_programs(15 * many)]


def all_choices(program):
    """The places of all "if"s, with the statements."""
    return {(owner, (*place, index)): statement for owner, place, block in all_blocks(program)
            for index, statement in enumerate(block) if statement[0] == "if"}


def one_time(program, statement):
    """Whether both sides take one and the same time, whichever way is gone."""
    times = [told_time(program, side) for side in statement[2:]]
    return None not in times and times[0] == times[1]


class PaperTest(unittest.TestCase):
    def test_small(self):
        # The choice on a secret is padded, and its side begins a region.
        paper = program_paper(program=SMALL)
        code = compiled(padded_program(labelled(SMALL)))[3][0][1]
        self.assertEqual(code[2:], (("local", 0), ("else", 9), ("local", 0), ("push", 4, 1), ("op", "add", 4), ("keep", 0), ("jump", 14),
                                    REST, REST, REST, REST, REST, ("local", 0), ("out", 1), END))
        (entries, regions, end), = paper
        self.assertEqual((regions, end), (((3, 14, (1,), 5, None, 0),), ()))
        self.assertEqual([entry[3:] for entry in entries], [(None, 0)] * 4 + [(0, left) for left in (5, 4, 3, 2, 1) * 2] + [(None, 0)] * 3)
        self.assertEqual([entry[0] for entry in entries[3:8]], [((1,),), (), ((1,),), ((1,), (1,)), ((1,),)])

    def test_what_is_not_let_by(self):
        # Open lots are the least ones; what leaks is a fault of the paper.
        program = with_block(("take", "a", 1), ("out", 0, A))
        self.assertFalse(is_let_by(program))
        image = compiled(labelled(program))
        self.assertEqual(paper_fault(image, program_paper(program)), (0, 3, "flow"))
        # A loop on a secret, then a take that is seen.
        program = with_block(("take", "a", 1), ("while", A, (("set", "a", FOUR),)), ("take", "b", 0))
        self.assertFalse(is_let_by(program))
        self.assertEqual(paper_fault(compiled(labelled(program)), program_paper(program))[2], "flow")

    def test_choices_that_take_one_time_are_regions_whatever_they_hang_on(self):
        even = ("if", A, (("skip", 2),), (("skip", 2),))
        odd = ("if", A, (("skip", 2),), (("skip", 3),))
        for block, many in (((even,), 1), ((odd,), 0), ((("if", A, (), ()),), 1), ((("times", 5, (even,)),), 5), ((("while", A, (even,)),), 1),
                            ((("while", A, (odd,)),), 0), ((even, ("if", A, (even,), (even,))), 4), ((("if", A, (odd,), (odd,)),), 0),
                            ((("take", "a", 0), ("if", A, (odd,), (odd, ("skip", 1)))), 0),
                            ((("take", "a", 1), ("if", A, (odd,), (odd, ("skip", 1)))), 3)):
            regions, = [part[1] for part in program_paper(with_block(*block))]
            self.assertEqual(len(regions), many, block)

    def test_made_ones(self):
        for _, program in all_programs(2):
            told = padded_program(labelled(program))
            paper = program_paper(program)
            self.assertEqual(paper, plain_least(plain_image(told)))
            self.assertIsNotNone(paper)
        self.assertEqual(program_paper(FULL), plain_least(plain_image(padded_program(labelled(FULL)))))

    def test_let_by_means_checked(self):
        checked = 0
        for _, program in all_programs():
            image = compiled(padded_program(labelled(program)))
            paper = program_paper(program)
            if is_let_by(program):
                self.assertIs(is_checked(image, paper), True)
                self.assertIs(is_harmless(image), True)
                for end, told in zip(end_lots(paper), program_ends(program)):
                    self.assertTrue(covered(program[0], end, told))
                checked += 1
        self.assertGreater(checked, 50)

    def test_regions_are_the_even_choices(self):
        found = 0
        for _, program in all_programs():
            told = padded_program(labelled(program))
            even = [pair for pair, statement in all_choices(told).items() if one_time(told, statement)]
            self.assertLessEqual(set(even_ifs(told)), set(even))
            for (_, code), places in zip(compiled(told)[3], spots(told)):
                choices = [row for row, part in enumerate(code) if part[0] == "else" and places[row] in even]
                self.assertEqual([region[0] for region in code_regions(code)], choices)
                found += len(choices)
        self.assertGreater(found, 100)

    def test_nothing_is_lost_by_lifting_the_clock(self):
        # The words of other choices that have a time are covered by the clock and the pc there, in threads.
        others = 0
        for _, program in let_by_programs(80):
            told = padded_program(labelled(program))
            choices = all_choices(told)
            timed = timed_ifs(told)
            moments = {(owner, place): joined_lots(pc, clock) for owner, place, pc, clock in moment_lots(told)}
            threads = [thread[0] for thread in told[4]]
            paper = program_paper(program)
            for thread, (code, places) in enumerate(zip([code for _, code in compiled(told)[3]], spots(told))):
                for row, part in enumerate(code):
                    if part[0] != "else" or places[row][0] not in threads or places[row] not in timed:
                        continue
                    if not one_time(told, choices[places[row]]):
                        entry = paper[thread][0][row]
                        self.assertTrue(covered(told[0], entry[0][-1], moments[places[row]]))
                        others += 1
        self.assertGreater(others, 5)

    def test_what_is_let_by_keeps_what_it_may_not_show(self):
        runs = 0
        for maker, program in let_by_programs(40):
            self.assertTrue(is_let_by(program))
            image = compiled(padded_program(labelled(program)))
            ends = end_lots(program_paper(program))
            for level in range(len(image[0])):
                inputs = maker.input(image[0])
                other = maker.input(image[0])
                other = tuple(inputs[low] if low in image[0][level] else other[low] for low in range(len(image[0])))
                self.assertEqual(seen(image[0], level, ends, run_image(image, inputs, 200)), seen(image[0], level, ends, run_image(image, other, 200)))
                runs += 1
        self.assertGreater(runs, 80)

    def test_one_of_each_kind(self):
        self.assertIs(is_let_by((ORDER, *FULL[1:])), is_checked(compiled(padded_program(labelled(FULL))), program_paper(FULL)))


if __name__ == "__main__":
    unittest.main()
