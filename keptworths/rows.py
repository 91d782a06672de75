"""Rows, and rows with an index."""

from keptworths.deeds import edition_lines, reckoned_columns
from keptworths.errors import InvalidDeed, InvalidEdition, InvalidKind, NothingToUndo, UnknownColumn
from keptworths.indexes import WAYS, Change, entries_behind, is_missed, is_wrong
from keptworths.moments import Moment, copied, moment_behind, told_worth, true_worth


class Row:
    """A row of a table, with all its moments."""

    def __init__(self, table):
        self._table = table
        self._editions = edition_lines(table)
        self._deeds = table.deeds()
        self._columns = table.plain + table.columns
        empty = Moment(0, {column: 0 for column in table.plain}, {})
        self._history = [("put",)]
        self._moments = [moment_behind(self._editions, empty, ("put",))]

    def __call__(self, deed):
        return self._do(deed)

    def told(self, column):
        """The told worth of a column."""
        _check_column(column, self._columns)
        return copied(told_worth(self._editions, self._moments[-1], column))

    def true(self, column, edition):
        """The true worth of a column by an edition, now."""
        _check_column(column, self._columns)
        if not 0 <= edition < len(self._editions):
            raise InvalidEdition(edition)
        return true_worth(self._editions[edition], self._moments[-1].counts, column)

    def standing(self, column):
        """The standing of a reckoned column, now."""
        _check_column(column, self._table.columns)
        moment = self._moments[-1]
        told = told_worth(self._editions, moment, column)
        if told is None:
            return "lacks"
        if told == true_worth(self._editions[moment.now], moment.counts, column):
            return "now"
        return "old" if self._was_true(told, column) else "nobody"

    @property
    def edition(self):
        """The index of the edition now."""
        return self._moments[-1].now

    @property
    def history(self):
        """The deeds, with the first put."""
        return list(self._history)

    def undo(self):
        """Takes back the last deed."""
        if len(self._history) == 1:
            raise NothingToUndo(0)
        self._history.pop()
        self._moments.pop()

    def __len__(self):
        return len(self._history)

    def __eq__(self, other):
        if not isinstance(other, Row) or isinstance(other, IndexedRow):
            return False
        return self._table == other._table and self._history == other._history

    def _do(self, deed):
        ahead = self._moments[-1]
        is_last = ahead.now == len(self._editions) - 1
        if deed not in self._deeds or (deed == ("edition",) and is_last):
            raise InvalidDeed(deed)
        behind = moment_behind(self._editions, ahead, deed)
        self._history.append(deed)
        self._moments.append(behind)
        return [
            column
            for column in self._columns
            if told_worth(self._editions, ahead, column) != told_worth(self._editions, behind, column)
        ]

    def _was_true(self, worth, column):
        passed = self._editions[:self._moments[-1].now + 1]
        return any([
            worth == true_worth(lines, moment.counts, column)
            for lines in passed
            for moment in self._moments
        ])


class IndexedRow(Row):
    """A row with an index on a reckoned column."""

    def __init__(self, table, column, way):
        _check_column(column, table.columns)
        if way not in WAYS:
            raise InvalidKind(way)
        Row.__init__(self, table)
        self._column = column
        self._way = way
        told = self._told_now()
        self._indexes = [entries_behind(way, [], Change(None, None, told, True, False))]

    def __call__(self, deed):
        changed = self._do(deed)
        self._indexes.append(entries_behind(self._way, self._indexes[-1], self._last_change()))
        return changed

    def entries(self):
        """The entries, in the order in which they were put in."""
        return [copied(entry) for entry in self._indexes[-1]]

    def missed(self):
        """Whether the row is missed."""
        return is_missed(self._indexes[-1], self._told_now())

    def wrongly(self):
        """Whether the row is found wrongly."""
        return is_wrong(self._indexes[-1], self._told_now())

    def undo(self):
        """Takes back the last deed, also what it did to the index."""
        super().undo()
        self._indexes.pop()

    def __eq__(self, other):
        if not isinstance(other, IndexedRow):
            return False
        same_row = self._table == other._table and self._history == other._history
        return same_row and self._column == other._column and self._way == other._way

    def _told_now(self):
        return told_worth(self._editions, self._moments[-1], self._column)

    def _last_change(self):
        deed = self._history[-1]
        ahead = self._moments[-2]
        lines = self._editions[ahead.now]
        return Change(
            told_worth(self._editions, ahead, self._column),
            true_worth(lines, ahead.counts, self._column),
            self._told_now(),
            deed == ("put",),
            self._column in reckoned_columns(lines, deed),
        )


def _check_column(column, columns):
    if column not in columns:
        raise UnknownColumn(column)
