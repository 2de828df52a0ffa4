"""The names and arguments that the document lists, and promises [1] to [3] for all of them."""
import importlib
import inspect
import os
import re
import unittest

INTERFACE = {
    "errors": [],
    "orders": ["is_order(value)", "order_of(levels, pairs)", "ring_of(levels, pairs)", "is_lot(order, value)",
               "lot_within(order, lot, level)", "joined_lots(one, other)", "covered(order, one, other)",
               "watchers(order, lot)"],
    "words": ["is_word(value, width)", "word_op(op, width, one, other)", "op_width(op, width)"],
    "records": ["is_input(order, value)", "alike_inputs(order, level, one, other)", "is_record(order, value)",
                "seen(order, level, ends, record)", "cut_record(record, tick)"],
    "tokens": ["tokens_of(text)", "token_places(text)"],
    "programs": ["is_program(value)", "expression_width(program, owner, expression)"],
    "programtexts": ["program_tokens(program)", "program_text(program)"],
    "reading": ["read_program(text)", "completed(text)"],
    "tasks": ["frame(program, thread)"],
    "meaning": ["start_program(program, inputs)", "step_program(program, state)",
                "advance_program(program, state, ticks)", "run_program(program, inputs, ticks)"],
    "moments": ["choices_made(program, inputs, thread, ticks)", "acts_of(program, thread, choices)"],
    "lives": ["diary(program, inputs, thread, ticks)", "relive(program, thread, diary, slots)",
              "is_weave(program, inputs, diaries, ticks)"],
    "knots": ["flows(program)", "sources(program)", "caps(program)", "open_knots(program)"],
    "labels": ["least_labels(program)", "are_standing(program, value)", "are_fitting(program, value)",
               "labelled(program)", "program_ends(program)"],
    "refusing": ["refusing_row(program)", "is_refusing_row(program, value)"],
    "clocks": ["lot_of(program, owner, expression)", "rise_of(program, owner, block)", "moment_lots(program)"],
    "faults": ["type_faults(program)", "two_sided(program, level)", "is_let_by(program)", "let_by(program)"],
    "faultways": ["is_way(program, fault, value)", "way_of(program, fault)"],
    "erasing": ["erased(program, level)"],
    "spans": ["expression_span(program, expression)", "block_span(program, block)", "told_time(program, block)",
              "thread_spans(program)"],
    "times": ["block_times(program, block, most)", "begin_slots(program, name, place, most)"],
    "sides": ["timed_ifs(program)", "even_ifs(program)", "closed_ifs(program, some)", "secret_ifs(program)"],
    "padding": ["padded(program, some)", "padded_program(program)", "rests_in(program)"],
    "code": ["is_instruction(value)", "is_image(value)", "successors(code, row)"],
    "codetexts": ["image_text(image)", "read_image(text)"],
    "states": ["start_state(image, inputs)", "is_over(state)"],
    "machine": ["step_image(image, state)", "advance(image, state, ticks)", "run_image(image, inputs, ticks)",
                "whole_run(image, inputs, most)", "thread_deeds(record, thread, many)"],
    "compiling": ["compiled(program)", "code_sizes(program)", "spots(program)"],
    "likeness": ["likeness(program, image)", "source_state(value, state)", "machine_states(value, state)"],
    "papers": ["is_paper(image, value)", "end_lots(paper)", "landing(regions, number)", "veil(regions, number)"],
    "checker": ["row_fault(image, paper, thread, row)", "paper_fault(image, paper)", "is_checked(image, value)"],
    "unwinding": ["fits_paper(image, paper, state)", "hidden_region(image, paper, level, thread, row)",
                  "slots_left(paper, thread, row, region)", "alike_states(image, paper, level, one, other)",
                  "unlike_part(image, paper, level, one, other)"],
    "sidebyside": ["alike_ticks(image, paper, level, one, other, ticks)"],
    "meetings": ["meeting(code, row)", "code_regions(code)"],
    "leastpapers": ["least_paper(image)", "is_harmless(image)"],
    "programpapers": ["program_paper(program)"],
    "bare": ["bare_start(image)", "bare_step(image, bare, word)", "bare_deed(image, bare)", "words_in(image, bare)",
             "bare_states(image, most)"],
    "visible": ["sight_of(image, ends, level, bare)", "is_visible_machine(image, ends, level, value)",
                "machine_record(value, inputs, ticks)"],
    "watched": ["is_parting(image, ends, level, value)", "watched(image, ends, level, most)",
                "least_machine(image, ends, level, value)"],
    "groups": ["joined_image(image, lot)", "parting_levels(image, ends, most)"],
    "wishes": ["wished_record(image, ends, level, wish, words, ticks)", "wished_machine_record(value, wish, ticks)"],
    "telling": ["row_classes(image, ends, level, row, secrets, ticks)", "wish_classes(image, ends, level, wish, secrets, ticks)",
                "telling_row(image, ends, level, one, other, ticks)"],
    "making": ["made(text)", "sight(image, paper, inputs, level, ticks)", "first_unlike(image, paper, one, other, level, ticks)"],
    "houses": [],
    "sheets": ["sheet_holds(value)", "sheet(name, question)", "wrong_sheets(values)"],
    "desk": [],
}


CLASSES = {
    ("houses", "House"): ["__init__(self, text)", "__len__(self)", "inputs(self)", "ticks(self)", "record(self)", "see(self, level)",
                          "give(self, level, word)", "tick(self, many)", "undo(self)", "within(self, work)"],
    ("desk", "Desk"): ["__init__(self)", "load(self, text)", "say(self, command)"],
}


class InterfaceTest(unittest.TestCase):
    def test_all_that_the_document_lists(self):
        # The interface here is that of the document, where it stands beside the project.
        path = os.path.join(os.path.dirname(__file__), "..", "..", "shared", "DOC.md")
        if not os.path.exists(path):
            self.skipTest("the document is not here")
        with open(path, encoding="utf-8") as file:
            told = file.read().split("# The interface")[1].split("## lookalike/")[1:]
        names = {part.split(".py")[0]: re.findall("`([a-z_]+\\(.*?\\))`", part) for part in told}
        self.assertEqual(sorted(names), sorted(INTERFACE))
        for name, lines in INTERFACE.items():
            if name not in ("houses", "desk"):
                self.assertEqual(lines, names[name])

    def test_classes(self):
        for (name, word), methods in CLASSES.items():
            module = importlib.import_module("lookalike." + name)
            told = getattr(module, word)
            self.assertEqual(told.__module__, module.__name__)
            for line in methods:
                method = vars(told)[line.split("(")[0]]
                self.assertEqual(method.__name__ + str(inspect.signature(method)), line)

    def test_attributes(self):
        house = importlib.import_module("lookalike.houses").House("levels 1 within 0 { 0 } thread t { }")
        self.assertLessEqual({"program", "image", "paper"}, set(vars(house)))
        self.assertEqual(vars(importlib.import_module("lookalike.desk").Desk()), {"house": None})

    def test_names_and_arguments(self):
        for name, told in INTERFACE.items():
            module = importlib.import_module("lookalike." + name)
            for line in told:
                function = getattr(module, line.split("(")[0])
                self.assertEqual(function.__name__ + str(inspect.signature(function)), line)
                self.assertEqual(function.__module__, module.__name__)

    def test_errors(self):
        module = importlib.import_module("lookalike.errors")
        for name in ("LookError InvalidOrder InvalidText InvalidProgram InvalidCode InvalidPaper InvalidQuestion Refused "
                     "InvalidCommand").split():
            self.assertEqual(getattr(module, name).__module__, module.__name__)


if __name__ == "__main__":
    unittest.main()
