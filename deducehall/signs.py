"""Signs: a text cut into words, names, numbers, quoted words and marks, each with its place."""

from deducehall.errors import BadSign

# The longer marks stand ahead of those that they begin with: the first that fits is the longest.
MARKS = (":-", "?-", "<=", "!=", ":=", "(", ")", ",", ".", "!", "<", "=", "+", "-", "*")
FIGURES = "0123456789"
SMALL = "abcdefghijklmnopqrstuvwxyz"
GREAT = "ABCDEFGHIJKLMNOPQRSTUVWXYZ"
INNER = "abcdefghijklmnopqrstuvwxyzABCDEFGHIJKLMNOPQRSTUVWXYZ0123456789_"
MOST_FIGURES = 18
MEANT = {"'": "'", "\\": "\\", "n": "\n"}


class Sign:
    """A sign of a text: its kind, what it says, its row and column from one on."""

    def __init__(self, kind, said, row, column):
        self.kind = kind
        self.said = said
        self.row = row
        self.column = column

    def shown(self):
        """Return (kind, said, row, column)."""
        return self.kind, self.said, self.row, self.column

    def is_mark(self, said):
        """Tell whether it is a mark that says so."""
        return self.kind == "mark" and self.said == said

    def ends_term(self):
        """Tell whether a term may end with it: a stroke behind it then begins no number."""
        return self.kind != "mark" or self.said == ")"

    def written(self):
        """Return it as it is written."""
        return marked(self.said) if self.kind == "quoted" else self.said


class Cutter:
    """A text, how far it is cut, and where the row began."""

    def __init__(self, text):
        self.text = text
        self.place = 0
        self.row = 1
        self.begun = 0
        self.signs = []

    def at_end(self):
        """Go past white and remarks, from a hash to the row's end; tell whether nothing is left."""
        while self.place < len(self.text):
            sign = self.text[self.place]
            if sign == "#":
                self.pass_remark()
            elif sign == "\n":
                self.place += 1
                self.row += 1
                self.begun = self.place
            elif sign == " " or sign == "\t":
                self.place += 1
            else:
                return False
        return True

    def pass_remark(self):
        """Go on to the row's end, which is left."""
        end = self.text.find("\n", self.place)
        self.place = len(self.text) if end < 0 else end

    def column_here(self):
        """Return the column of the sign here."""
        return self.place - self.begun + 1

    def where(self):
        """Return words that tell the place of the sign here."""
        return f"row {self.row}, column {self.column_here()}"

    def run(self, good):
        """Take the sign here and those behind it that are among good ones; return them."""
        end = self.place + 1
        while end < len(self.text) and self.text[end] in good:
            end += 1
        said = self.text[self.place:end]
        self.place = end
        return said

    def quoted(self):
        """Take a word in marks, a backslash ahead of marks, backslashes and n for a row's end; BadSign."""
        said = []
        at = self.place + 1
        while at < len(self.text) and self.text[at] != "\n":
            sign = self.text[at]
            if sign == "'":
                self.place = at + 1
                return "".join(said)
            if sign == "\\":
                at += 1
                sign = MEANT.get(self.text[at:at + 1], "")
                if sign == "":
                    raise BadSign(f"no such sign behind a backslash: {self.where()}")
            said.append(sign)
            at += 1
        raise BadSign(f"no end of a quoted word: {self.where()}")

    def signed(self):
        """Tell whether a stroke here begins a number: a figure behind it, and no term ahead."""
        if self.text[self.place:self.place + 1] != "-" or not is_figure(self.text[self.place + 1:self.place + 2]):
            return False
        return self.signs == [] or not self.signs[-1].ends_term()

    def take_number(self):
        """Take a number; BadSign for more than eighteen figures."""
        where = self.where()
        said = self.run(FIGURES)
        if len(said.lstrip("-")) > MOST_FIGURES:
            raise BadSign(f"too long a number: {where}")
        return said

    def mark(self):
        """Take a mark, the longer first; BadSign for another sign."""
        for said in MARKS:
            if self.text.startswith(said, self.place):
                self.place += len(said)
                return said
        raise BadSign(f"no sign of the language: {self.where()}")

    def cut_one(self):
        """Cut one sign off."""
        column = self.column_here()
        sign = self.text[self.place]
        if is_small(sign):
            kind, said = "word", self.run(INNER)
        elif sign in GREAT or sign == "_":
            kind, said = "name", self.run(INNER)
        elif is_figure(sign) or self.signed():
            kind, said = "number", self.take_number()
        elif sign == "'":
            kind, said = "quoted", self.quoted()
        else:
            kind, said = "mark", self.mark()
        self.signs.append(Sign(kind, said, self.row, column))


def is_figure(sign):
    """Tell whether a sign is a figure."""
    return len(sign) == 1 and sign in FIGURES


def is_small(sign):
    """Tell whether a sign is a small letter."""
    return len(sign) == 1 and sign in SMALL


def is_inner(sign):
    """Tell whether a sign may stand within a word or name."""
    return len(sign) == 1 and sign in INNER


def cut(text):
    """Return the signs of a text; BadSign for one that isn't of the language."""
    cutter = Cutter(text)
    while not cutter.at_end():
        cutter.cut_one()
    return tuple(cutter.signs)


def fault_at(text):
    """Return (row, column) where a text's first sign stands that can't be cut, None for none."""
    cutter = Cutter(text)
    while not cutter.at_end():
        row, column = cutter.row, cutter.column_here()
        try:
            cutter.cut_one()
        except BadSign:
            return row, column
    return None


def laid_out(signs):
    """Return signs written one behind another, a blank between, in rows as they stood."""
    last = max([sign.row for sign in signs], default=0)
    rows = [[] for _ in range(last)]
    for sign in signs:
        rows[sign.row - 1].append(sign.written())
    return "\n".join([" ".join(row) for row in rows])


def marked(said):
    """Return a word in marks, a backslash ahead of marks, backslashes and an n for a row's end."""
    within = said.replace("\\", "\\\\").replace("'", "\\'").replace("\n", "\\n")
    return f"'{within}'"
