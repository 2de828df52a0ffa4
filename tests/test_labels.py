"""Promises [22] and [24]."""
import itertools
import unittest

from lookalike.knots import caps, flows, open_knots, sources
from lookalike.labels import are_fitting, are_standing, labelled, least_labels, program_ends
from lookalike.orders import covered
from lookalike.programs import is_program
from lookalike.refusing import refusing_row
from randomprograms import made_programs
from samples import FULL, ORDER, SMALL
from wrongvalues import NO_TUPLES, of_other_kinds, replaced, same

A = ("name", "a")
EXAMPLE = (ORDER, (), (), (), (
    ("t", (("a", None, 4), ("b", None, 4)), (
        ("take", "a", 1),
        ("if", ("op", "eq", A, ("word", 4, 3)), (("set", "b", ("word", 4, 1)),), ()),
        ("out", 0, ("name", "b")),
    )),
))


def with_lots(a, b, level):
    """The same with these lots, put out at this level."""
    name, (one, other), block = EXAMPLE[4][0]
    thread = (name, ((one[0], a, 4), (other[0], b, 4)), (*block[:2], ("out", level, ("name", "b"))))
    return (*EXAMPLE[:4], (thread,))


def labels_with(program, **lots):
    """The least labels but for these knots of names."""
    return tuple((knot, lots.get(knot[2], lot) if knot[0] == "name" else lot) for knot, lot in least_labels(program))


def all_labels(program):
    """All rows of lots for the knots of a program with two levels."""
    knots = [knot for knot, _ in least_labels(program)]
    for lots in itertools.product([(), (0,), (1,), (0, 1)], repeat=len(knots)):
        yield tuple(zip(knots, lots))


class LeastLabelsTest(unittest.TestCase):
    def test_example(self):
        self.assertEqual(labelled(EXAMPLE)[4][0][1], (("a", (1,), 4), ("b", (1,), 4)))
        self.assertEqual(program_ends(EXAMPLE), ((),))

    def test_all_knots_have_labels(self):
        for program in (SMALL, FULL, EXAMPLE, *[program for _, program in made_programs(80)]):
            labels = least_labels(program)
            knots = [knot for knot, _ in labels]
            told = {knot for pair in flows(program) for knot in pair}
            told |= {knot for knot, _ in sources(program) + caps(program)} | set(open_knots(program))
            told |= {("name", "", part[0]) for part in program[1] + program[2]}
            self.assertEqual(knots, sorted(told))

    def test_small(self):
        self.assertEqual(least_labels(program=with_lots((1,), None, 0))[7:9],
                         ((("name", "t", "a"), (1,)), (("name", "t", "b"), (1,))))
        # What is told goes on, and nothing that comes to it.
        self.assertEqual(least_labels(with_lots((), None, 0))[7:9], ((("name", "t", "a"), ()), (("name", "t", "b"), ())))
        self.assertEqual(least_labels(with_lots((0,), None, 0))[8], (("name", "t", "b"), (0,)))

    def test_a_knot_has_what_leads_to_it(self):
        for _, program in made_programs(60):
            told = {knot for knot, _ in least_labels(program)
                    if knot[0] == "name" and knot not in open_knots(program)}
            own = {knot: set() for knot, _ in least_labels(program)}
            for knot, level in sources(program):
                own[knot].add(level)
            for knot, lot in caps(program):
                if knot in told:
                    own[knot] = set(lot)
            lots = {knot: set(own[knot]) for knot in own}
            while True:
                further = [(knot, target) for knot, target in flows(program)
                           if target not in told and not lots[knot] <= lots[target]]
                if not further:
                    break
                for knot, target in further:
                    lots[target] |= lots[knot]
            self.assertEqual(dict(least_labels(program)), {knot: tuple(sorted(lot)) for knot, lot in lots.items()})

    def test_all_labels_of_a_small_program(self):
        program = (ORDER, (), (), (), (("t", (("a", None, 4),), (("take", "a", 1),)),))
        least = dict(least_labels(program))
        standing = 0
        for labels in all_labels(program):
            lots = dict(labels)
            stands = all(set(lots[knot]) <= set(lots[target]) for knot, target in flows(program)) and 1 in lots["name", "t", "a"]
            self.assertIs(are_standing(program, labels), stands)
            coming = {knot: set() for knot in lots}
            for knot, target in flows(program):
                coming[target] |= set(lots[knot])
            fits = stands and all(covered(ORDER, tuple(sorted(coming[knot])), lot) for knot, lot in caps(program))
            self.assertIs(are_fitting(program, labels), fits)
            if stands:
                standing += 1
                self.assertTrue(all(set(least[knot]) <= set(lots[knot]) for knot in lots))
        self.assertGreater(standing, 10)


class StandingTest(unittest.TestCase):
    def test_least_ones_stand(self):
        for _, program in made_programs(150):
            labels = least_labels(program)
            self.assertIs(are_standing(program, labels), True)
            self.assertIs(are_fitting(program, labels), refusing_row(program) is None)

    def test_no_part_of_the_least_ones_can_lack(self):
        for _, program in made_programs(40):
            labels = least_labels(program)
            opened = open_knots(program)
            for index, (knot, lot) in enumerate(labels):
                if knot[0] != "name" or knot in opened:
                    for level in lot:
                        less = tuple(other for other in lot if other != level)
                        lower = replaced(labels, (index, 1), less)
                        lots = dict(lower)
                        leads = [other for other, target in flows(program) if target == knot and level in lots[other]]
                        self.assertIs(are_standing(program, lower), not leads and (knot, level) not in sources(program))

    def test_greater_ones(self):
        self.assertIs(are_standing(EXAMPLE, labels_with(EXAMPLE, a=(0, 1), b=(0, 1))), False)
        labels = tuple((knot, (0, 1)) for knot, _ in least_labels(EXAMPLE))
        self.assertIs(are_standing(program=EXAMPLE, value=labels), True)
        self.assertIs(are_fitting(EXAMPLE, labels), False)
        self.assertIs(are_standing(EXAMPLE, labels_with(EXAMPLE, a=())), False)
        self.assertIs(are_standing(EXAMPLE, labels_with(EXAMPLE, b=())), False)

    def test_told_ones(self):
        program = with_lots((1,), (1,), 1)
        self.assertIs(are_fitting(program=program, value=least_labels(program)), True)
        self.assertIs(are_standing(program, labels_with(program, a=(0, 1))), False)
        self.assertIs(are_standing(program, labels_with(program, a=())), False)
        program = with_lots((), (1,), 1)
        self.assertIs(are_standing(program, least_labels(program)), True)
        self.assertIs(are_fitting(program, least_labels(program)), False)
        program = with_lots((1,), (), 1)
        self.assertIs(are_standing(program, least_labels(program)), True)
        self.assertIs(are_fitting(program, least_labels(program)), False)
        self.assertIs(are_fitting(with_lots(None, None, 1), least_labels(with_lots(None, None, 1))), True)

    def test_lots_that_cover_each_other(self):
        order = ((0,), (1,), (0, 1, 2))
        program = (order, (), (), (), (("t", (("a", (0, 1), 4), ("b", (2,), 4)), (("set", "b", A), ("set", "a", ("name", "b")))),))
        self.assertIs(are_fitting(program, least_labels(program)), True)
        self.assertIsNone(refusing_row(program))

    def test_wrong_values(self):
        for program in (EXAMPLE, SMALL):
            labels = least_labels(program)
            wrong = [labels[1:], labels[:-1], labels[::-1], (*labels, labels[-1]), (*labels, (("name", "t", "z"), ())),
                     dict(labels), list(labels), (*labels[1:], labels[0]), (*labels[:3], labels[4], labels[3], *labels[5:])]
            for index, (knot, lot) in enumerate(labels):
                for part in (None, (), knot, (knot,), (lot, knot), (knot, lot, lot), [knot, lot], (knot, None), (knot, 1),
                             (knot, list(lot)), (knot, (2,)), (knot, (1, 0)), (knot, (0, 0)), (knot, (True,)), (None, lot),
                             (list(knot), lot), ([], lot), ([[], *knot[1:]], lot), ((knot[0], [], knot[2]), lot),
                             (([], *knot[1:]), lot), ((*knot, 0), lot), (knot[:2], lot), ((knot[0], knot[1], [])), lot):
                    wrong.append(replaced(labels, (index,), part))
            for value in (*NO_TUPLES, (), *wrong, *of_other_kinds(labels)):
                self.assertIs(are_standing(program, value), False, value)
                self.assertIs(are_fitting(program, value), False, value)


class LabelledTest(unittest.TestCase):
    def test_full(self):
        program = labelled(program=FULL)
        self.assertTrue(is_program(program))
        self.assertEqual([box[1] for box in program[1] + program[2]], [(), (), (1,), ()])
        self.assertEqual([place[1] for place in program[3][0][1] + program[3][0][2]], [(1,), (), (1,)])
        self.assertEqual([place[1] for place in program[4][0][1]], [(1,), (0, 1)])

    def test_nothing_else_changes(self):
        for _, program in made_programs(150):
            told = labelled(program)
            labels = dict(least_labels(program))
            self.assertTrue(is_program(told))
            for one, other in zip(program[1] + program[2], told[1] + told[2]):
                self.assertEqual(other, (one[0], labels["name", "", one[0]], *one[2:]))
            for one, other in zip(program[3] + program[4], told[3] + told[4]):
                self.assertEqual((one[0], one[3:]), (other[0], other[3:]))
                for ours, theirs in zip(one[1], other[1]):
                    self.assertEqual(theirs, (ours[0], labels["name", one[0], ours[0]], ours[2]))
                if len(one) == 3:
                    self.assertEqual(one[2], other[2])
            self.assertEqual(open_knots(told), ())
            for one, other in zip(sorted(labels), sorted(dict(least_labels(told)))):
                self.assertEqual(one, other)

    def test_labelled_again(self):
        for _, program in made_programs(150):
            told = labelled(program)
            self.assertTrue(same(labelled(told), told))
            self.assertEqual(least_labels(told), least_labels(program))
            self.assertEqual(refusing_row(told) is None, refusing_row(program) is None)
            self.assertEqual(program_ends(told), program_ends(program))


class EndsTest(unittest.TestCase):
    def test_ends(self):
        def ends(*block):
            thread = ("t", (("a", None, 4),), (("take", "a", 1), *block))
            return program_ends((ORDER, (), (), (), (thread, ("u", (), ()))))
        self.assertEqual(ends(), ((), ()))
        self.assertEqual(ends(("if", A, (("skip", 9),), ())), ((), ()))
        self.assertEqual(ends(("while", A, ())), ((1,), ()))
        self.assertEqual(ends(("if", A, (("while", ("word", 1, 0), ()),), ())), ((1,), ()))
        self.assertEqual(ends(("if", ("word", 1, 0), (("while", A, ()),), ())), ((1,), ()))

    def test_made_ones(self):
        for _, program in made_programs(80):
            labels = dict(least_labels(program))
            self.assertEqual(program_ends(program=program), tuple(labels["after", thread[0], ()] for thread in program[4]))


if __name__ == "__main__":
    unittest.main()
