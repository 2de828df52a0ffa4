"""Another way to tell which tokens may come next in a block: by all rows of symbols that may still come.

It stands for the words of chapter 4 of the document, and knows nothing of how the package reads.
"""
from lookalike.words import OPS, WIDTHS


class Grammar:
    """What may stand behind the first bracket of a thread's block, with these names, up to its last one.

    Symbols are strings, which are tokens, and tuples, which stand for several rows of symbols.
    """

    def __init__(self, levels, places, rows, functions, numerals):
        self.levels = levels
        self.places = places
        self.rows = rows
        self.functions = functions
        self.numerals = numerals

    def rows_for(self, symbol):
        action = getattr(self, symbol[0])
        return action(*symbol[1:])

    def any_expression(self):
        return [[("expression", width)] for width in WIDTHS]

    def expression(self, width):
        found = [[str(n), ":", str(width)] for n in self.numerals if n < 2 ** width]
        found += [[name] for name in self.places if self.places[name] == width]
        found += [[name, "[", ("any_expression",), "]"] for name in self.rows if self.rows[name] == width]
        for op in OPS[:10]:
            found.append(["(", ("expression", width), op, ("expression", width), ")"])
        if width == 1:
            for op in OPS[10:]:
                for inner in WIDTHS:
                    found.append(["(", ("expression", inner), op, ("expression", inner), ")"])
        for name, (needs, result) in self.functions.items():
            if result == width:
                args = []
                for need in needs:
                    args += [",", ("expression", need)]
                found.append([name, "(", *args[1:], ")"])
        return found

    def statements(self):
        return [["}"], [("statement",), ("statements",)]]

    def some_statements(self):
        return [[("statement",), ("statements",)]]

    def statement(self):
        found = []
        for name, width in self.places.items():
            found.append([name, "=", ("expression", width), ";"])
            found += [["take", name, str(level), ";"] for level in range(self.levels)]
        for name, width in self.rows.items():
            found.append([name, "[", ("any_expression",), "]", "=", ("expression", width), ";"])
        found.append(["if", ("any_expression",), "{", ("statements",)])
        found.append(["if", ("any_expression",), "{", ("statements",), "else", "{", ("some_statements",)])
        found.append(["while", ("any_expression",), "{", ("statements",)])
        found += [["times", str(n), "{", ("statements",)] for n in self.numerals if n <= 64]
        found += [["out", str(level), ("any_expression",), ";"] for level in range(self.levels)]
        found += [["skip", str(n), ";"] for n in self.numerals]
        return found

    def begin(self):
        """All rows of symbols that begin with a token, or are empty, one of which must come."""
        return self.expanded([(("statements",),)])

    def expanded(self, stacks):
        done = set()
        waiting = list(stacks)
        while waiting:
            stack = waiting.pop()
            if not stack or isinstance(stack[0], str):
                done.add(stack)
            else:
                waiting += [(*row, *stack[1:]) for row in self.rows_for(stack[0])]
        return done

    def behind(self, stacks, token):
        """What may come behind this token."""
        return self.expanded([stack[1:] for stack in stacks if stack and stack[0] == token])
