"""The states of a row by which is decided which of its columns are "now".

A value that has passed never comes again. So a worth of a state is the number of a part of true worths, all of whose
values are those of now; or None, if it lacks, or is no such part and can be none any more.
"""

from keptworths.deeds import edition_lines
from keptworths.shapes import Shapes
from keptworths.spaces import Space


class TruthSpace(Space):
    """States (edition, kept worths, ()) of all columns of a table; none of them is looked for."""

    def __init__(self, table):
        editions = edition_lines(table)
        self._shapes = Shapes(editions, table.columns)
        Space.__init__(self, editions, table.plain, table.columns, table.deeds())

    def is_found(self, _):
        """Whether a state is looked for."""
        return False

    def behind(self, state, step):
        """The state behind a step."""
        kept = self._kept_behind(state, step)
        return (step.now, tuple([kept[column] for column in self._names]), ())

    def behind_deed(self, state, deed):
        """The state behind a deed."""
        return self.behind(state, self._all_steps[state[0]][deed])

    def are_now(self, state, columns):
        """Whether some columns are all "now"."""
        now, worths, _ = state
        kept = self._kept(worths)
        return all([self._told(now, kept, column) == self._shapes.tops[column][now] for column in columns])

    def _passed(self, worth, step):
        if worth is None:
            return None
        given = [self._plain[place] for place in step.given]
        return None if any([column in given for column in self._shapes.plain_columns(worth)]) else worth

    def _plain_worth(self, column):
        return self._shapes.of_plain(column)

    def _joined(self, formula, worths):
        return self._shapes.of_formula(formula, worths)
