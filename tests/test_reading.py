"""Promise [13]."""
import itertools
import random
import unittest

from grammar import Grammar
from lookalike.errors import InvalidText
from lookalike.programs import is_program
from lookalike.programtexts import program_text, program_tokens
from lookalike.reading import completed, read_program
from lookalike.tokens import tokens_of
from randomprograms import made_programs
from samples import FULL, FULL_TEXT, SMALL, SMALL_TOKENS
from test_orders import all_orders
from wrongvalues import same

LEVELS = "levels 2 within 0 { 0 } within 1 { 0 1 } "
HEAD = LEVELS + ("box b : 1 ? = 0 row r : 4 ? * 3 function f ( x : 1 ? , y : 4 ? ) { } -> 2 : 4 "
                 "function g ( ) { } -> 1 : 1 thread t { local a : 4 ? local f : 8 ? local g : 4 ? ")


def first_wrong(text):
    """The number that the error keeps, None if the text is read."""
    try:
        read_program(text)
    except InvalidText as error:
        return error.at
    return None


class Checks:
    def check_wrong(self, text, wrong):
        """The text is a beginning of a program's, and this token, whatever stands behind it, is wrong there."""
        tokens = tokens_of(text + wrong)
        for more in ("", " }", " x ; } }", " 0 # so"):
            self.assertEqual(first_wrong(text + wrong + more), len(tokens) - 1, text + wrong + more)
            self.assertIsNone(completed(text + wrong + more))
        self.check_completed(text)

    def check_begun(self, text):
        """The text is a beginning of a program's, but no program's."""
        self.assertEqual(first_wrong(text), len(tokens_of(text)), text)
        self.check_completed(text)

    def check_completed(self, text):
        """The text is a beginning of a program's."""
        tokens = tokens_of(text)
        program = completed(text)
        self.assertTrue(is_program(program), text)
        self.assertEqual(program_tokens(program)[:len(tokens)], tokens)


class ReadingTest(Checks, unittest.TestCase):
    def test_examples(self):
        self.assertEqual(read_program(program_text(SMALL)), SMALL)
        self.assertEqual(read_program(SMALL_TOKENS), SMALL)
        self.assertIsNone(completed("levels 1 within 0 { 0 } box b : 2 ? = 4"))

    def test_each_kind(self):
        self.assertTrue(same(read_program(FULL_TEXT), FULL))
        self.assertTrue(same(completed(FULL_TEXT), FULL))

    def test_no_string(self):
        for value in (None, 1, True, b"levels 1", ("levels", "1"), ["levels"], SMALL, 1.5, {}):
            with self.assertRaises(InvalidText) as caught:
                read_program(text=value)
            self.assertEqual(caught.exception.at, 0)

    def test_empty_texts(self):
        for text in ("", " \n", "# levels 1"):
            self.check_begun(text)
        self.assertEqual(first_wrong("x"), 0)
        self.assertEqual(first_wrong("level 1"), 0)
        self.assertIsNone(completed(text="x"))

    def test_all_beginnings_and_all_texts_of_made_programs(self):
        for _, program in itertools.chain([(None, FULL)], made_programs(40)):
            tokens = program_tokens(program)
            self.assertTrue(same(read_program(program_text(program)), program))
            self.assertTrue(same(read_program("#a\n" + "\n#b\n ".join(tokens)), program))
            self.assertTrue(same(completed(" ".join(tokens)), program))
            for many in range(0, len(tokens), 1 if program is FULL else 9):
                if first_wrong(" ".join(tokens[:many])) is not None:
                    self.check_begun(" ".join(tokens[:many]))

    def test_changed_texts(self):
        chance = random.Random(11)
        for maker, program in itertools.chain([(None, FULL)] * 12, made_programs(120)):
            tokens = list(program_tokens(program))
            for _ in range(5):
                changed = list(tokens)
                at = chance.randrange(len(tokens))
                kind = chance.choice(["out", "twice", "other", "number", "turned"])
                if kind == "out":
                    del changed[at]
                elif kind == "twice":
                    changed.insert(at, tokens[at])
                elif kind == "other":
                    changed[at] = chance.choice(tokens)
                elif kind == "number":
                    changed[at] = str(chance.choice([0, 1, 2, 3, 4, 8, 16, 32, 64, 65, 255, 256, 2 ** 32]))
                else:
                    other = chance.randrange(len(tokens))
                    changed[at], changed[other] = changed[other], changed[at]
                wrong = first_wrong(" ".join(changed))
                if wrong is None:
                    program = read_program(" ".join(changed))
                    self.assertTrue(is_program(program))
                    self.assertEqual(program_tokens(program), tuple(changed))
                    continue
                begun = completed(" ".join(changed[:wrong]))
                self.assertTrue(is_program(begun))
                self.assertEqual(program_tokens(begun)[:wrong], tuple(changed[:wrong]))
                if wrong < len(changed):
                    self.assertIsNone(completed(" ".join(changed[:wrong + 1])))
                    self.assertIsNone(completed(" ".join(changed)))

    def test_unlike_programs_have_unlike_tokens(self):
        found = {}
        for _, program in made_programs(300, levels=1):
            self.assertEqual(found.setdefault(program_tokens(program), program), program)


class OrdersTest(Checks, unittest.TestCase):
    def test_levels(self):
        for wrong in ("0", "13", "01", "a", "-", "1000000000000", "{", "within"):
            self.assertEqual(first_wrong("levels " + wrong), 1)
        for levels in (1, 12):
            self.check_begun(f"levels {levels}")
            self.check_begun(f"levels {levels} within 0 {{ 0")
            self.check_wrong(f"levels {levels} within 0 {{ ", str(levels))

    def test_all_beginnings_of_orders(self):
        for levels in (1, 2, 3, 4):
            rows = set()
            for order in all_orders(levels):
                tokens = tokens_of(program_text((order, (), (), (), (("t", (), ()),))))
                end = tokens.index("thread")
                rows.update(tokens[:many] for many in range(2, end + 1))
            further = [str(level) for level in range(levels + 1)] + ["}", "{", "within", "00"]
            for row in rows:
                if row[-1] == "}" and row.count("}") == levels:
                    continue
                for token in further:
                    told = (*row, token)
                    wrong = first_wrong(" ".join(told))
                    self.assertEqual(wrong, len(told) if told in rows else len(row), told)
                    if levels < 4 or len(row) % 5 == 0:
                        program = completed(" ".join(told))
                        self.assertEqual(program is not None, told in rows)
                        if program is not None:
                            self.assertTrue(is_program(program))
                            self.assertEqual(program_tokens(program)[:len(told)], told)

    def test_within_lines(self):
        self.check_wrong("levels 2 ", "box")
        self.check_wrong("levels 2 within ", "1")
        self.check_wrong("levels 2 within 0 { 0 } within ", "0")
        self.check_wrong("levels 2 within 0 { 0 } ", "thread")
        self.check_wrong(LEVELS, "within")
        self.check_wrong("levels 2 within 0 { 0 1 } within 1 { ", "0")
        self.check_wrong("levels 3 within 0 { 0 2 } within 1 { 0 ", "}")
        self.check_wrong("levels 3 within 0 { 0 2 } within 1 { 0 1 ", "}")
        self.check_wrong("levels 3 within 0 { 0 1 } within 1 { 1 ", "2")


class HeadsTest(Checks, unittest.TestCase):
    def test_boxes(self):
        self.check_wrong(LEVELS + "box ", "1")
        self.check_wrong(LEVELS + "box ", "if")
        self.check_wrong(LEVELS + "box b : ", "3")
        self.check_wrong(LEVELS + "box b : ", "64")
        self.check_wrong(LEVELS + "box b : ", "?")
        self.check_wrong(LEVELS + "box b : ", "04")
        self.check_wrong(LEVELS + "box b : 4 [ ", "2")
        self.check_wrong(LEVELS + "box b : 4 [ 1 ", "0")
        self.check_wrong(LEVELS + "box b : 4 [ 1 ", "1")
        self.check_wrong(LEVELS + "box b : 4 [ 0 ", ",")
        self.check_wrong(LEVELS + "box b : 4 ", "=")
        self.check_wrong(LEVELS + "box b : 4 ? = ", "16")
        self.check_wrong(LEVELS + "box b : 4 ? = ", "015")
        self.check_wrong(LEVELS + "box b : 4 ? ", "*")
        self.check_wrong(LEVELS + "box b : 4 ? = 15 ", ":")
        self.check_wrong(LEVELS + "box b : 4 ? = 15 box ", "b")
        self.check_begun(LEVELS + "box b : 4 [ 0 1 ] = 15")

    def test_rows(self):
        for size in ("0", "65", "064", "b", "-1", "1" * 1001):
            text = LEVELS + "row r : 4 ? * "
            self.assertEqual(first_wrong(text + size), len(tokens_of(text)))
        self.check_begun(LEVELS + "row r : 4 [ ] * 64")
        self.check_wrong(LEVELS + "row r : 4 ? * 1 ", "box")
        self.check_wrong(LEVELS + "row r : 4 ? * 1 row ", "r")
        self.check_wrong(LEVELS + "row r : 4 ? ", "=")

    def test_functions(self):
        begun = LEVELS + "box b : 4 ? = 0 function f ( p : 4 ? "
        self.check_wrong(LEVELS + "function f ( ", ",")
        self.check_wrong(LEVELS + "function f ( ", "1")
        self.check_wrong(begun + ", ", ")")
        self.check_wrong(begun + ", ", "p")
        self.check_wrong(begun + ", ", "b")
        self.check_wrong(begun + ") { local ", "p")
        self.check_wrong(begun + ") { local ", "b")
        self.check_wrong(begun, "local")
        self.check_wrong(begun + ") { p = p ; ", "local")
        self.check_wrong(begun + ") { } ", "-")
        self.check_wrong(begun + ") { } -> ", ";")
        self.check_wrong(begun + ") { } -> ", "f")
        self.check_wrong(begun + ") { } -> p ", ";")
        self.check_wrong(begun + ") { } -> p ", "}")
        self.check_wrong(begun + ") { } -> p function ", "f")
        self.check_wrong(begun + ") { } -> p function ", "b")
        self.check_wrong(begun + ") { } -> p ", "box")
        self.check_wrong(begun + ") { } -> ", "g")
        self.check_wrong(begun + ") { p = ", "f")
        self.check_begun(begun + ") { } -> p")
        self.check_begun(begun + ", f : 1 ? , thread1 : 2 ? ) { local t : 32 [ 1 ] } -> ( f lt f )")

    def test_threads(self):
        self.check_begun(LEVELS)
        self.check_wrong(LEVELS, "t")
        self.check_wrong(LEVELS + "thread t { } ", "function")
        self.check_wrong(LEVELS + "thread t { } thread ", "t")
        self.check_wrong(LEVELS + "thread t { } ", "}")
        self.check_wrong(LEVELS + "box t : 1 ? = 0 thread ", "t")
        self.check_wrong(LEVELS + "thread t { local a : 1 ? local ", "a")
        self.assertIsNone(first_wrong(LEVELS + "thread t { local t : 1 ? } thread u { local t : 8 ? }"))
        self.check_begun(LEVELS + "thread t { } thread")


class PartsTest(Checks, unittest.TestCase):
    def test_statements(self):
        self.check_wrong(HEAD, "x")
        self.check_wrong(HEAD, "t")
        self.check_wrong(HEAD, "else")
        self.check_wrong(HEAD + "if a { } ", ";")
        self.check_wrong(HEAD + "if a { } else { ", "}")
        self.check_wrong(HEAD + "if a { } else { skip 1 ; } ", "else")
        self.check_wrong(HEAD + "while a { } ", "else")
        self.check_wrong(HEAD + "times ", "65")
        self.check_wrong(HEAD + "times ", "a")
        self.check_wrong(HEAD + "times ", "-")
        self.check_wrong(HEAD + "skip ", "00")
        self.check_wrong(HEAD + "out ", "2")
        self.check_wrong(HEAD + "out ", "a")
        self.check_wrong(HEAD + "take ", "r")
        self.check_wrong(HEAD + "take ", "0")
        self.check_wrong(HEAD + "take a ", "2")
        self.check_wrong(HEAD + "take a ", ";")
        self.check_wrong(HEAD + "a ", "[")
        self.check_wrong(HEAD + "r ", "=")
        self.check_wrong(HEAD + "a = a ", "}")
        self.check_begun(HEAD + "times 64 { times 0 { if a { } else {")

    def test_takes_with_no_name_to_take_to(self):
        self.check_wrong(LEVELS + "row r : 4 ? * 1 thread t { ", "take")
        self.check_begun(LEVELS + "box b : 4 ? = 0 thread t { take")
        self.check_begun(LEVELS + "thread t { local a : 4 ? take")

    def test_numerals(self):
        long = "1" + "0" * 999
        self.check_begun(HEAD + "skip " + long)
        self.check_wrong(HEAD + "skip ", long + "0")
        program = read_program(HEAD + f"skip {long} ; }}")
        self.assertEqual(program[4][0][2], (("skip", 10 ** 999),))

    def test_expressions(self):
        self.check_wrong(HEAD + "a = ", "16")
        self.check_wrong(HEAD + "a = ", "b")
        self.check_wrong(HEAD + "a = 1 : ", "8")
        self.check_wrong(HEAD + "a = ( ", "b")
        self.check_wrong(HEAD + "a = ( a ", "eq")
        self.check_wrong(HEAD + "a = ( a ", "plus")
        self.check_wrong(HEAD + "a = ( a ", ")")
        self.check_wrong(HEAD + "a = ( a add ", "b")
        self.check_wrong(HEAD + "b = ( a ", "add")
        self.check_wrong(HEAD + "b = ( a eq ", "b")
        self.check_wrong(HEAD + "b = ", "2")
        self.check_begun(HEAD + "b = ( 4294967295")
        self.check_wrong(HEAD + "b = ( ", "4294967296")
        self.check_begun(HEAD + "b = ( ( ( a add a ) eq a ) add ( b lt 1")
        self.check_wrong(HEAD + "out 1 ", "4294967296")
        self.check_wrong(HEAD + "out 1 4 : ", "2")
        self.check_wrong(HEAD + "out 1 r ", ";")
        self.check_wrong(HEAD + "out 1 r [ a ] ", "]")
        self.check_wrong(HEAD + "out 1 ", "t")
        self.check_wrong(HEAD + "b = ", "r")

    def test_names_of_functions_that_are_names_of_locals(self):
        self.check_wrong(HEAD + "a = f ", ";")
        self.check_wrong(HEAD + "f = f ", "(")
        self.check_begun(HEAD + "f = f ;")
        self.check_begun(HEAD + "a = f ( b , a ) ;")
        self.check_wrong(HEAD + "a = g ", "(")
        self.check_begun(HEAD + "b = g ( )")
        self.check_begun(HEAD + "out 0 g ( ) ; out 0 g ;")
        self.check_begun(HEAD + "out 0 f (")

    def test_args(self):
        self.check_wrong(HEAD + "a = f ( ", ")")
        self.check_wrong(HEAD + "a = f ( ", "a")
        self.check_wrong(HEAD + "a = f ( b ", ")")
        self.check_wrong(HEAD + "a = f ( b , ", "b")
        self.check_wrong(HEAD + "a = f ( b , a ", ",")
        self.check_wrong(HEAD + "b = g ( ", "a")
        self.check_begun(HEAD + "a = f ( g ( ) , f ( 1 : 1 , 15 : 4 ) )")

    def test_deep_texts(self):
        head = LEVELS + "thread t { out 0 "
        self.check_begun(head + "( " * 9000)
        self.check_wrong(head + "( " * 9000, ")")
        self.check_begun(LEVELS + "thread t { " + "if 1 : 1 { } else { " * 1500)
        self.check_wrong(LEVELS + "thread t { " + "while 1 : 1 { " * 1500, "else")

    def test_each_token_by_another_grammar(self):
        numbers = [0, 1, 2, 3, 4, 8, 15, 16, 32, 64, 65, 255, 256, 2 ** 32 - 1, 2 ** 32]
        places = {"a": 4, "f": 8, "g": 4, "b": 1}
        grammar = Grammar(2, places, {"r": 4}, {"f": ([1, 4], 4), "g": ([], 1)}, numbers)
        tokens = [str(number) for number in numbers] + list("abrfgxt()[]{};:,=")
        tokens += "add eq lt if else while times take out skip -> thread 01".split()
        chance = random.Random(4)
        for _ in range(30):
            text = HEAD
            stacks = grammar.begin()
            for _ in range(25):
                nexts = {token: grammar.behind(stacks, token) for token in tokens}
                known = len(tokens_of(text))
                for token in tokens:
                    # Behind the last bracket there is a program; else the text is begun, or the token is wrong.
                    told = None if () in nexts[token] else known + 1 if nexts[token] else known
                    self.assertEqual(first_wrong(text + token), told, text + token)
                going_on = [token for token in tokens if any(nexts[token])]
                if not going_on:
                    break
                token = chance.choice(going_on)
                text += token + " "
                stacks = nexts[token]


if __name__ == "__main__":
    unittest.main()
