"""Watches: questions kept standing, told what came and went each time."""

from deducehall.errors import NoSuch
from deducehall.queries import asks_changed, question
from deducehall.terms import in_order


class Watch:
    """A question and the rows it answered last."""

    def __init__(self, text, engine):
        self.question = question(text)
        self.last = self.question.answer(engine)

    def news(self, engine):
        """Return (rows that came, rows that went) since the last time, in order."""
        before = self.last
        self.last = self.question.answer(engine)
        return lacking_rows(self.last, before), lacking_rows(before, self.last)

    def rows(self):
        """Return the rows it answered last, in order."""
        return self.last


def lacking_rows(rows, others):
    """Return the rows that aren't among others, as they stand."""
    table = {row: True for row in others}
    return tuple([row for row in rows if row not in table])


class Watches:
    """Watches by their names, told only where a change may touch them."""

    def __init__(self):
        self.held = {}

    def set_watch(self, word, text, engine):
        """Set a watch by a word, in place of one of that word; return its rows now; BadSign, BadRule."""
        self.held[word] = Watch(text, engine)
        return self.held[word].rows()

    def lift(self, word):
        """Lift a watch; NoSuch."""
        if word not in self.held:
            raise NoSuch(f"no watch: {word}")
        del self.held[word]

    def tell(self, engine, changes):
        """Return (word, came, went) for each watch that has news, in order of the words."""
        return self.news_of([word for word in self.held if asks_changed(self.held[word].question, changes)], engine)

    def tell_all(self, engine):
        """Return (word, came, went) for each watch that has news, whatever changed."""
        return self.news_of(self.held, engine)

    def news_of(self, words, engine):
        """Return (word, came, went) for each watch of some words that has news, in order of the words."""
        news = [(word,) + self.held[word].news(engine) for word in sorted(words)]
        return tuple([telling for telling in news if telling[1:] != ((), ())])


def gathered(rows, tellings):
    """Return rows, in order, with what came and went put upon them, telling by telling; NoSuch for what doesn't fit."""
    table = {row: True for row in rows}
    for telling in tellings:
        # A telling of several watches' news has its word ahead.
        came, went = telling[-2:]
        for row in went:
            if row not in table:
                raise NoSuch("not there")
            del table[row]
        for row in came:
            if row in table:
                raise NoSuch("there")
            table[row] = True
    return in_order(table)
