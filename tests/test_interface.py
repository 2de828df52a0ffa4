"""The names and arguments that the document lists, and promises [1] to [3] for all of them."""
import importlib
import inspect
import unittest

INTERFACE = {
    "errors": [],
    "orders": ["is_order(value)", "order_of(levels, pairs)", "ring_of(levels, pairs)", "is_lot(order, value)",
               "lot_within(order, lot, level)", "joined_lots(one, other)", "covered(order, one, other)",
               "watchers(order, lot)"],
    "words": ["is_word(value, width)", "word_op(op, width, one, other)", "op_width(op, width)"],
    "records": ["is_input(order, value)", "alike_inputs(order, level, one, other)", "is_record(order, value)",
                "seen(order, level, ends, record)", "cut_record(record, tick)"],
    "tokens": ["tokens_of(text)", "token_places(text)"],
    "programs": ["is_program(value)", "expression_width(program, owner, expression)"],
    "programtexts": ["program_tokens(program)", "program_text(program)"],
    "reading": ["read_program(text)", "completed(text)"],
    "tasks": ["frame(program, thread)"],
    "meaning": ["start_program(program, inputs)", "step_program(program, state)",
                "advance_program(program, state, ticks)", "run_program(program, inputs, ticks)"],
    "moments": ["choices_made(program, inputs, thread, ticks)", "acts_of(program, thread, choices)"],
    "lives": ["diary(program, inputs, thread, ticks)", "relive(program, thread, diary, slots)",
              "is_weave(program, inputs, diaries, ticks)"],
    "knots": ["flows(program)", "sources(program)", "caps(program)", "open_knots(program)"],
    "labels": ["least_labels(program)", "are_standing(program, value)", "are_fitting(program, value)",
               "labelled(program)", "program_ends(program)"],
    "refusing": ["refusing_row(program)", "is_refusing_row(program, value)"],
}


class InterfaceTest(unittest.TestCase):
    def test_names_and_arguments(self):
        for name, told in INTERFACE.items():
            module = importlib.import_module("lookalike." + name)
            for line in told:
                function = getattr(module, line.split("(")[0])
                self.assertEqual(function.__name__ + str(inspect.signature(function)), line)
                self.assertEqual(function.__module__, module.__name__)

    def test_errors(self):
        module = importlib.import_module("lookalike.errors")
        for name in ("LookError InvalidOrder InvalidText InvalidProgram InvalidCode InvalidPaper InvalidQuestion Refused "
                     "InvalidCommand").split():
            self.assertEqual(getattr(module, name).__module__, module.__name__)


if __name__ == "__main__":
    unittest.main()
