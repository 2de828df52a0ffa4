"""The names and arguments that the document lists, and promises [1] to [3] for all of them."""
import importlib
import inspect
import unittest

INTERFACE = {
    "errors": [],
    "orders": ["is_order(value)", "order_of(levels, pairs)", "ring_of(levels, pairs)", "is_lot(order, value)",
               "lot_within(order, lot, level)", "joined_lots(one, other)", "covered(order, one, other)",
               "watchers(order, lot)"],
    "words": ["is_word(value, width)", "word_op(op, width, one, other)", "op_width(op, width)"],
    "records": ["is_input(order, value)", "alike_inputs(order, level, one, other)", "is_record(order, value)",
                "seen(order, level, ends, record)", "cut_record(record, tick)"],
    "tokens": ["tokens_of(text)", "token_places(text)"],
    "programs": ["is_program(value)", "expression_width(program, owner, expression)"],
    "programtexts": ["program_tokens(program)", "program_text(program)"],
    "reading": ["read_program(text)", "completed(text)"],
    "tasks": ["frame(program, thread)"],
    "meaning": ["start_program(program, inputs)", "step_program(program, state)",
                "advance_program(program, state, ticks)", "run_program(program, inputs, ticks)"],
    "moments": ["choices_made(program, inputs, thread, ticks)", "acts_of(program, thread, choices)"],
    "lives": ["diary(program, inputs, thread, ticks)", "relive(program, thread, diary, slots)",
              "is_weave(program, inputs, diaries, ticks)"],
    "knots": ["flows(program)", "sources(program)", "caps(program)", "open_knots(program)"],
    "labels": ["least_labels(program)", "are_standing(program, value)", "are_fitting(program, value)",
               "labelled(program)", "program_ends(program)"],
    "refusing": ["refusing_row(program)", "is_refusing_row(program, value)"],
    "clocks": ["lot_of(program, owner, expression)", "rise_of(program, owner, block)", "moment_lots(program)"],
    "faults": ["type_faults(program)", "two_sided(program, level)", "is_let_by(program)", "let_by(program)"],
    "faultways": ["is_way(program, fault, value)", "way_of(program, fault)"],
    "erasing": ["erased(program, level)"],
    "spans": ["expression_span(program, expression)", "block_span(program, block)", "told_time(program, block)",
              "thread_spans(program)"],
    "times": ["block_times(program, block, most)", "begin_slots(program, name, place, most)"],
    "sides": ["timed_ifs(program)", "even_ifs(program)", "closed_ifs(program, some)", "secret_ifs(program)"],
    "padding": ["padded(program, some)", "padded_program(program)", "rests_in(program)"],
    "code": ["is_instruction(value)", "is_image(value)", "successors(code, row)"],
    "codetexts": ["image_text(image)", "read_image(text)"],
    "states": ["start_state(image, inputs)", "is_over(state)"],
    "machine": ["step_image(image, state)", "advance(image, state, ticks)", "run_image(image, inputs, ticks)",
                "whole_run(image, inputs, most)", "thread_deeds(record, thread, many)"],
    "compiling": ["compiled(program)", "code_sizes(program)", "spots(program)"],
    "likeness": ["likeness(program, image)", "source_state(value, state)", "machine_states(value, state)"],
    "papers": ["is_paper(image, value)", "end_lots(paper)", "landing(regions, number)", "veil(regions, number)"],
    "checker": ["row_fault(image, paper, thread, row)", "paper_fault(image, paper)", "is_checked(image, value)"],
    "unwinding": ["fits_paper(image, paper, state)", "hidden_region(image, paper, level, thread, row)",
                  "slots_left(paper, thread, row, region)", "alike_states(image, paper, level, one, other)",
                  "unlike_part(image, paper, level, one, other)"],
    "sidebyside": ["alike_ticks(image, paper, level, one, other, ticks)"],
    "meetings": ["meeting(code, row)", "code_regions(code)"],
    "leastpapers": ["least_paper(image)", "is_harmless(image)"],
    "programpapers": ["program_paper(program)"],
    "bare": ["bare_start(image)", "bare_step(image, bare, word)", "bare_deed(image, bare)", "words_in(image, bare)",
             "bare_states(image, most)"],
    "visible": ["sight_of(image, ends, level, bare)", "is_visible_machine(image, ends, level, value)",
                "machine_record(value, inputs, ticks)"],
}


class InterfaceTest(unittest.TestCase):
    def test_names_and_arguments(self):
        for name, told in INTERFACE.items():
            module = importlib.import_module("lookalike." + name)
            for line in told:
                function = getattr(module, line.split("(")[0])
                self.assertEqual(function.__name__ + str(inspect.signature(function)), line)
                self.assertEqual(function.__module__, module.__name__)

    def test_errors(self):
        module = importlib.import_module("lookalike.errors")
        for name in ("LookError InvalidOrder InvalidText InvalidProgram InvalidCode InvalidPaper InvalidQuestion Refused "
                     "InvalidCommand").split():
            self.assertEqual(getattr(module, name).__module__, module.__name__)


if __name__ == "__main__":
    unittest.main()
