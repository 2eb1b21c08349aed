"""Reports and tables as texts."""

from meanways.errors import BadLevel, BadText, TooMany
from meanways.reports import MOST_PARTS, NARROWING, SIGNS, START, made
from meanways.schemes import ROW, is_columns, is_within
from meanways.tables import WEIGHTS, Table, is_row

STEPS = ("sum", "mean", "weighed", "share", "times", "over")
WEIGHING = ("weighed", "share")
# For these, the set need not lie within the level.
COUNTING = ("times", "over")
NO_LETTERS = "-"
MARKS = {"plus": " + ", "minus": " - "}
FIGURES = "0123456789"
HEAD = "columns "
NUMBERS_BEHIND_KEYS = 3
PIECE = 1000000000
PIECE_FIGURES = 9


def set_text(letters):
    """A set as it is written."""
    return letters if letters != "" else NO_LETTERS


def _part_text(part):
    """The text of a part of a report."""
    if part == START:
        return "x"
    before = _part_text(part[1])
    if part[0] in SIGNS:
        return "(" + before + MARKS[part[0]] + _part_text(part[2]) + ")"
    return " ".join([before, part[0], set_text(part[2])] + list(part[3:]))


def report_text(report):
    """The text of a report."""
    return _part_text(report.parts())


class Reading:
    """A text of a report that is read up to a place, and the steps that have ended so far."""

    def __init__(self, columns, text):
        self.letters = columns + ROW
        self.text = text
        self.place = 0
        self.steps = []
        # For each open bracket: the sign that stands in it, "" ahead of it.
        self.signs = []

    def read_piece(self, pieces):
        """Reads one of some pieces, of which none begins another one; BadText where none of them goes on."""
        end = self.place
        while self.text[self.place:end] not in pieces:
            longer = self.text[self.place:end + 1]
            if end == len(self.text) or not any([piece.startswith(longer) for piece in pieces]):
                raise BadText(end)
            end += 1
        piece = self.text[self.place:end]
        self.place = end
        return piece

    def read_set(self):
        """Reads as many ascending letters as there are, or the sign for none."""
        found = self.read_piece([NO_LETTERS] + list(self.letters))
        if found == NO_LETTERS:
            return ""
        while self.place < len(self.text) and self.text[self.place] in self.letters[self.letters.index(found[-1]) + 1:]:
            found = found + self.text[self.place]
            self.place += 1
        return found

    def read_start(self):
        """Reads brackets that open, and the start behind them."""
        while self.read_piece(["(", "x"]) == "(":
            self.signs.append("")
        self.steps.append(START)

    def read_step(self, word):
        """Reads what stands behind the word of a step."""
        step = (word, self.read_set())
        if word in WEIGHING:
            step = step + (self.read_piece([" " + weight for weight in WEIGHTS])[1:],)
        self.steps.append(step)

    def read_more(self):
        """Reads what can stand behind a whole report, up to the next place at which there is one."""
        pieces = {" " + word + " ": word for word in STEPS}
        if self.signs and self.signs[-1] == "":
            for sign in MARKS:
                pieces[MARKS[sign]] = sign
        elif self.signs:
            pieces[")"] = ")"
        word = pieces[self.read_piece(list(pieces))]
        if word in MARKS:
            self.signs[-1] = word
            self.read_start()
        elif word == ")":
            self.steps.append((self.signs.pop(),))
        else:
            self.read_step(word)

    def is_ended(self):
        """Whether the text can end here and does."""
        return not self.signs and self.place == len(self.text)


def _steps_of(scheme, text):
    """The steps of a text in the order in which they end; BadText where it is none of a report over the scheme."""
    if not isinstance(text, str):
        raise BadText(0)
    reading = Reading(scheme.columns, text)
    reading.read_start()
    while not reading.is_ended():
        reading.read_more()
    return reading.steps


def _joined(step, one, other):
    """The part that a sum or a difference makes of two parts, and its level; both are pairs with the level."""
    if one[1] != other[1]:
        raise BadLevel(other[1])
    return ((step[0], one[0], other[0]), one[1])


def _stepped(scheme, step, one):
    """The part that a step makes of a part, and its level; both are pairs with the level."""
    word, letters = step[:2]
    part, level = one
    closure = scheme.closure(letters)
    if word not in COUNTING and not is_within(closure, level):
        raise BadLevel(letters)
    return ((word, part) + step[1:], closure if word in NARROWING else level)


def _part_of(scheme, steps):
    """The part that steps make, in the order in which they end; BadLevel as the methods of a report raise it."""
    held = []
    for step in steps:
        if step == START:
            held.append((START, scheme.closure(ROW)))
        elif step[0] in SIGNS:
            other = held.pop()
            held.append(_joined(step, held.pop(), other))
        else:
            held.append(_stepped(scheme, step, held.pop()))
    return held[0][0]


def read_report(scheme, text):
    """The report over a scheme that has this text."""
    steps = _steps_of(scheme, text)
    part = _part_of(scheme, steps)
    # Each part ends with a step of its own. Counted here, as a longer one nests too deep for the functions of reports.
    if len(steps) > MOST_PARTS:
        raise TooMany(MOST_PARTS)
    return made(scheme, part)


def number_text(number):
    """A number as it is written; Python itself refuses to write very long ones."""
    if number < 0:
        return "-" + number_text(-number)
    pieces = []
    while number >= PIECE:
        number, piece = divmod(number, PIECE)
        pieces.append(str(piece).zfill(PIECE_FIGURES))
    pieces.append(str(number))
    return "".join(pieces[::-1])


def _row_text(row):
    """The line of a row."""
    return " ".join([number_text(number) for number in row[0] + row[1:]])


def table_text(table):
    """The text of a table."""
    return "".join([line + "\n" for line in [HEAD + table.columns] + [_row_text(row) for row in table.rows]])


def read_number(word):
    """The number from 0 that a word is, None if it is none without leading zeros."""
    if word == "" or not is_within(word, FIGURES) or word[0] == "0" and word != "0":
        return None
    number = 0
    for figure in word:
        number = number * 10 + int(figure)
    return number


def _read_signed(word):
    """The number that a word is, with a minus ahead if it is below 0, None if it is none without leading zeros."""
    if not word.startswith("-"):
        return read_number(word)
    number = read_number(word[1:])
    return -number if number else None


def read_row(columns, line):
    """The tuple of keys, x and weights that a line tells, perhaps weights of 0; None if it has not their form."""
    words = line.split(" ")
    many = len(columns)
    if len(words) != many + NUMBERS_BEHIND_KEYS:
        return None
    numbers = [_read_signed(word) if at == many else read_number(word) for at, word in enumerate(words)]
    if None in numbers:
        return None
    return (tuple(numbers[:many]),) + tuple(numbers[many:])


def read_table(text):
    """The table that has this text."""
    if not isinstance(text, str):
        raise BadText(0)
    lines = text.split("\n")
    columns = lines[0].removeprefix(HEAD)
    if lines[0] != HEAD + columns or not is_columns(columns):
        raise BadText(0)
    rows = [read_row(columns, line) for line in lines[1:-1]]
    for at, row in enumerate(rows):
        if not is_row(columns, row):
            raise BadText(1 + at)
    # Behind the newline that ends the last line, nothing may be left.
    if lines[-1] != "":
        raise BadText(len(lines) - 1)
    return Table(columns, rows)
