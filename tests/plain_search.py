"""A plain search through all short histories, with nothing but rows."""

from keptworths.rows import IndexedRow, Row

STANDINGS = ("now", "old", "lacks", "nobody")
WAYS = ("told", "written", "reckoned")


def histories(row, deeds, editions, length):
    """All histories of a length, in order; the row stands behind each one while it is told."""
    if len(row) == length:
        yield row.history
        return
    for deed in deeds:
        if deed != ("edition",) or row.edition < editions - 1:
            row(deed)
            yield from histories(row, deeds, editions, length)
            row.undo()


def ordered_histories(row, table, longest):
    for length in range(1, longest + 1):
        yield from histories(row, table.deeds(), len(table), length)


def first_standings(table, longest):
    """The first history to each (column, standing), of those that are not too long."""
    found = {}
    row = Row(table)
    for history in ordered_histories(row, table, longest):
        for column in table.columns:
            found.setdefault((column, row.standing(column)), history)
    return found


def first_faults(table, column, way, longest):
    """The first histories behind which an indexed row is missed, and found wrongly, None for none that is short."""
    missed = wrongly = None
    row = IndexedRow(table, column, way)
    for history in ordered_histories(row, table, longest):
        if missed is None and row.missed():
            missed = history
        if wrongly is None and row.wrongly():
            wrongly = history
        if missed and wrongly:
            break
    return missed, wrongly


class Rows:
    """Several rows with the same history, as one."""

    def __init__(self, *rows):
        self.rows = rows

    def __call__(self, deed):
        for row in self.rows:
            row(deed)

    def undo(self):
        for row in self.rows:
            row.undo()

    def __len__(self):
        return len(self.rows[0])

    history = property(lambda self: self.rows[0].history)
    edition = property(lambda self: self.rows[0].edition)


def first_unlike_rows(one, other, longest):
    """The first history behind which two rows are told unlike, None if none is short."""
    rows = Rows(Row(one), Row(other))
    for history in ordered_histories(rows, one, longest):
        if any(rows.rows[0].told(column) != rows.rows[1].told(column) for column in one.columns):
            return history
    return None


def are_now(row, columns):
    return all(row.standing(column) == "now" for column in columns)


def unsettled_rows(table, deeds, longest):
    """For each edition, the first history in it behind which some deeds leave a column that is not "now"."""
    found = {}
    row = Row(table)
    for history in ordered_histories(row, table, longest):
        for deed in deeds:
            row(deed)
        if not are_now(row, table.columns):
            found.setdefault(row.edition, history)
        for _ in deeds:
            row.undo()
    return found
