"""Logs: what each transaction changed, written row by row, with a figure that tells a whole one from a torn one."""

from deducehall.engines import Engine, many_changes
from deducehall.errors import BadStore, DeduceFault
from deducehall.readers import read_rule, told_atom, told_rule
from deducehall.safety import check_rule, row_of
from deducehall.signs import is_figure
from deducehall.terms import in_order, val

BASE = 9973
WIDE = 2000003
BEGIN = "begin "
RULES = "rules "
END = "end "
RULE = "= "
CAME = "+ "
WENT = "- "
MOST_FIGURES_COUNTED = 12


class Block:
    """One transaction: its number, its rules (None where they stayed) and changes of facts in order."""

    def __init__(self, number, rules, steps):
        self.number = number
        self.rules = None if rules is None else tuple(rules)
        self.steps = tuple([tuple(step) for step in steps])

    def written(self):
        """Return it as it is written, the figure behind it."""
        lines = [f"{BEGIN}{self.number}"]
        if self.rules is not None:
            lines.append(f"{RULES}{len(self.rules)}")
            lines.extend([RULE + said for said in rules_written(self.rules)])
        lines.extend([(CAME if came else WENT) + fact_text(name, row) for name, row, came in self.steps])
        return with_ends(lines + [end_line(lines)])

    def shown(self):
        """Return (number, rules as written or None, steps)."""
        return self.number, None if self.rules is None else rules_written(self.rules), self.steps


class Log:
    """Blocks written one behind another."""

    def __init__(self):
        self.text = ""
        self.many = 0

    def write(self, rules, changes):
        """Write a transaction: rules or None, and changes of facts; return its block."""
        return self.take_on(rules, steps_of(changes))

    def take_on(self, rules, steps):
        """Write a transaction: rules or None, and steps of facts; return its block."""
        block = Block(self.many, rules, steps)
        self.text += block.written()
        self.many += 1
        return block


def steps_of(changes):
    """Return (name, row, came) steps of changes: all that went, then all that came, by names, rows in order."""
    names = changes.names()
    steps = [(name, row, False) for name in names for row in in_order(changes.went(name))]
    return steps + [(name, row, True) for name in names for row in in_order(changes.came(name))]


def figure_of(text):
    """Return a text's figure: its signs' numbers added up, then the same row by row, weighed by places from one on."""
    sums = [signs_added(row) for row in text.split("\n")]
    weighed = sum([place * found for place, found in enumerate(sums, 1)])
    return signs_added(text) % WIDE * BASE + weighed % BASE


def signs_added(text):
    """Return the numbers of a text's signs added up."""
    return sum([ord(sign) for sign in text])


def fact_text(name, row):
    """Return a fact as it is written."""
    return told_atom(name, [val(value) for value in row]) + "."


def rules_written(rules):
    """Return rules as they are written."""
    return tuple([told_rule(rule) for rule in rules])


def with_ends(lines):
    """Return the text of lines, each with its end."""
    return "".join([line + "\n" for line in lines])


def end_line(lines):
    """Return the line that ends a block of lines: the figure of their text."""
    return f"{END}{figure_of(with_ends(lines))}"


def read_fact(text):
    """Return (name, row) of a fact's text; BadStore for another."""
    try:
        rule = check_rule(read_rule(text))
        return rule.name, row_of(rule)
    except DeduceFault:
        raise BadStore("no fact") from None


def read_rules(lines):
    """Return the rules of lines; BadStore for one that is none."""
    return tuple([read_rule_line(line) for line in lines])


def read_rule_line(line):
    """Return the rule of a line; BadStore for another line."""
    if not line.startswith(RULE):
        raise BadStore("no rule")
    try:
        return read_rule(line[len(RULE):])
    except DeduceFault:
        raise BadStore("no rule") from None


def read_step(line):
    """Return (name, row, whether it came) of a line; BadStore for another line."""
    if not line.startswith(CAME) and not line.startswith(WENT):
        raise BadStore("no step")
    name, row = read_fact(line[len(CAME):])
    return name, row, line.startswith(CAME)


def whole_lines(text):
    """Return the lines of a text that end."""
    return text.split("\n")[:-1]


def read_block(lines):
    """Return a block of its lines but the last; BadStore for lines that are none."""
    if len(lines) == 0 or not is_count(lines[0], BEGIN):
        raise BadStore("no block")
    number = count_behind(lines[0], BEGIN)
    if len(lines) == 1 or not is_count(lines[1], RULES):
        return Block(number, None, [read_step(line) for line in lines[1:]])
    end = 2 + count_behind(lines[1], RULES)
    if end > len(lines):
        raise BadStore("rules lack")
    return Block(number, read_rules(lines[2:end]), [read_step(line) for line in lines[end:]])


def is_count(line, word):
    """Tell whether a line is a word and a number of one to twelve figures behind it, no nought ahead of others."""
    figures = line[len(word):]
    if not line.startswith(word) or not 1 <= len(figures) <= MOST_FIGURES_COUNTED:
        return False
    return all([is_figure(sign) for sign in figures]) and (figures == "0" or figures[0] != "0")


def count_behind(line, word):
    """Return the number behind a line's word."""
    return int(line[len(word):])


def blocks_of(text):
    """Return the blocks of a log's text, a torn end left out; BadStore where one within isn't whole."""
    blocks = []
    lines = []
    for line in whole_lines(text):
        if not line.startswith(END):
            lines.append(line)
            continue
        if line != end_line(lines):
            raise BadStore("another figure")
        block = read_block(lines)
        if block.number != len(blocks):
            raise BadStore(f"another number: {block.number}")
        blocks.append(block)
        lines = []
    return tuple(blocks)


def laid_block(engine, block):
    """Have an engine take a block in; BadStore for what can't be."""
    based = many_changes(block.steps)
    try:
        if block.rules is None:
            engine.take_in(based)
        else:
            engine.renew(block.rules, based)
    except DeduceFault:
        raise BadStore(f"can't be: {block.number}") from None


def replayed(text):
    """Return the engine that a log's whole blocks make, from nothing on; BadStore for what can't be."""
    engine = Engine()
    for block in blocks_of(text):
        laid_block(engine, block)
    return engine
