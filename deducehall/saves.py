"""Saves: an engine told whole in the language, read back, and logs shortened to a save and what came after."""

from deducehall.engines import Engine, many_changes
from deducehall.errors import BadStore, DeduceFault
from deducehall.logs import Log, blocks_of, fact_text, figure_of, laid_block, rules_written, with_ends
from deducehall.readers import read
from deducehall.safety import parted


def saved(engine):
    """Return an engine's rules in order, then its facts in order, a row each, and a figure's remark at the end."""
    facts = [fact_text(name, row) for name, row in engine.facts()]
    body = with_ends(list(rules_written(engine.rules)) + facts)
    return body + last_row(body)


def last_row(body):
    """Return the last row of a saved text, with its end: the figure of the rows ahead of it."""
    return f"# {figure_of(body)}\n"


def body_of(text):
    """Return a saved text without its figure; BadStore where it lacks or is another."""
    begun = text.rfind("\n", 0, max(0, len(text) - 1)) + 1
    if not text.startswith("# ", begun) or not text.endswith("\n"):
        raise BadStore("no figure")
    if text[begun:] != last_row(text[:begun]):
        raise BadStore("another figure")
    return text[:begun]


def restored(text):
    """Return the engine of a saved text; BadStore for one that isn't whole."""
    body = body_of(text)
    try:
        facts, rules = parted(rules_of(read(body)))
        return Engine(rules, facts)
    except DeduceFault:
        raise BadStore("not whole") from None


def rules_of(clauses):
    """Return the rules of clauses, facts too; BadStore where one is another clause."""
    if any([clause.kind != "rule" for clause in clauses]):
        raise BadStore("no rule")
    return [clause.rule for clause in clauses]


def same(one, other):
    """Tell whether two engines have one base, one model and rules written alike."""
    if one.facts() != other.facts() or one.shown() != other.shown():
        return False
    return rules_written(one.rules) == rules_written(other.rules)


def as_block(engine):
    """Return a log of one transaction that makes an engine from nothing."""
    log = Log()
    log.write(engine.rules, many_changes([(name, row, True) for name, row in engine.facts()]))
    return log


def shortened(text, many):
    """Return a log's text that makes the same, its first so many transactions made one; BadStore for fewer."""
    blocks = blocks_of(text)
    if many > len(blocks):
        raise BadStore(f"fewer: {len(blocks)}")
    if many < 1:
        return text
    engine = Engine()
    for block in blocks[:many]:
        laid_block(engine, block)
    log = as_block(engine)
    for block in blocks[many:]:
        log.take_on(block.rules, block.steps)
    return log.text


def stages(text):
    """Return what an engine shows after each of a log's transactions, nothing first."""
    engine = Engine()
    shown = [engine.shown()]
    for block in blocks_of(text):
        laid_block(engine, block)
        shown.append(engine.shown())
    return tuple(shown)
