"""Writing and reading images, line by line."""
from lookalike.code import Reach, are_widths, is_image_box, is_image_row, is_instruction, is_whole
from lookalike.errors import InvalidText
from lookalike.kinds import is_ascending
from lookalike.orders import MOST_LEVELS, is_order
from lookalike.tokens import numeral_value
from lookalike.words import OPS

MOST_DIGITS = 20


def image_text(image):
    """The text of an image."""
    order, boxes, rows, threads = image
    lines = [("levels", len(order))]
    lines.extend([("within", *lot) for lot in order])
    lines.extend([("box", width, word, *lot) for lot, width, word in boxes])
    lines.extend([("row", width, size, *lot) for lot, width, size in rows])
    for widths, code in threads:
        lines.append(("thread", *widths))
        # An op stands with its own name.
        lines.extend([part[1:] if part[0] == "op" else part for part in code])
    return "\n".join([" ".join([str(word) for word in line]) for line in lines])


class LineReader:
    """How far the lines of a text are read."""

    def __init__(self, text):
        self.lines = [line.split(" ") for line in text.split("\n")]
        self.at = 0

    def refuse(self):
        """Tell that the line at which the reader stands is wrong, or wanted."""
        raise InvalidText(self.at)

    def step(self):
        """Take the line at which the reader stands."""
        self.at += 1

    def is_behind(self):
        """Whether all lines are taken."""
        return self.at >= len(self.lines)

    def head(self):
        """The first word of the line, "" behind all lines."""
        return "" if self.is_behind() else self.lines[self.at][0]

    def numbers(self):
        """The numbers behind the first word of the line."""
        numbers = [line_number(word) for word in self.lines[self.at][1:]]
        if None in numbers:
            self.refuse()
        return tuple(numbers)

    def numbers_behind(self, head):
        """The numbers of the line, which begins with this word."""
        if self.head() != head:
            self.refuse()
        return self.numbers()


def line_number(word):
    """The number that a word of a line tells, None if it tells none."""
    return None if word == "" or len(word) > MOST_DIGITS else numeral_value(word)


def read_image(text):
    """The image with exactly this text."""
    if not isinstance(text, str):
        raise InvalidText(0)
    reader = LineReader(text)
    order = read_levels(reader)
    boxes = []
    while reader.head() == "box":
        box = lot_last(reader.numbers())
        if not is_image_box(order, box):
            reader.refuse()
        boxes.append(box)
        reader.step()
    rows = []
    while reader.head() == "row":
        row = lot_last(reader.numbers())
        if not is_image_row(order, row):
            reader.refuse()
        rows.append(row)
        reader.step()
    threads = [read_code(reader, order, boxes, rows)]
    while not reader.is_behind():
        threads.append(read_code(reader, order, boxes, rows))
    return (order, tuple(boxes), tuple(rows), tuple(threads))


def read_levels(reader):
    """Read the order."""
    numbers = reader.numbers_behind("levels")
    if len(numbers) != 1 or not 1 <= numbers[0] <= MOST_LEVELS:
        reader.refuse()
    reader.step()
    levels = numbers[0]
    order = []
    for level in range(levels):
        lot = reader.numbers_behind("within")
        if level not in lot or not is_ascending(lot) or lot[-1] >= levels:
            reader.refuse()
        order.append(lot)
        reader.step()
    if not is_order(tuple(order)):
        reader.refuse()
    return tuple(order)


def lot_last(numbers):
    """The numbers of a box or row in the order of an image: the lot first, which stands last in lines."""
    return (numbers[2:], *numbers[:2])


def read_code(reader, order, boxes, rows):
    """Read a thread."""
    widths = reader.numbers_behind("thread")
    if not are_widths(widths):
        reader.refuse()
    reader.step()
    reach = Reach(order, boxes, rows, widths)
    code = []
    while not reader.is_behind() and reader.head() != "thread":
        head = reader.head()
        instruction = ("op", head, *reader.numbers()) if head in OPS else (head, *reader.numbers())
        if not is_instruction(instruction) or not reach.has(instruction):
            reader.refuse()
        code.append(instruction)
        reader.step()
    if not is_whole(code):
        reader.refuse()
    return (widths, tuple(code))
