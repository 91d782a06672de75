"""A plain search through all short histories, with nothing but rows."""

from keptworths.rows import IndexedRow, Row

STANDINGS = ("now", "old", "lacks", "nobody")
WAYS = ("told", "written", "reckoned")


def histories(row, deeds, editions, length):
    """All histories of a length, in order; the row stands behind each one while it is told."""
    if len(row) == length:
        yield row.history
        return
    for deed in deeds:
        if deed != ("edition",) or row.edition < editions - 1:
            row(deed)
            yield from histories(row, deeds, editions, length)
            row.undo()


def ordered_histories(row, table, longest):
    for length in range(1, longest + 1):
        yield from histories(row, table.deeds(), len(table), length)


def first_standings(table, longest):
    """The first history to each (column, standing), of those that are not too long."""
    found = {}
    row = Row(table)
    for history in ordered_histories(row, table, longest):
        for column in table.columns:
            found.setdefault((column, row.standing(column)), history)
    return found


def first_faults(table, column, way, longest):
    """The first histories behind which an indexed row is missed, and found wrongly, None for none that is short."""
    missed = wrongly = None
    row = IndexedRow(table, column, way)
    for history in ordered_histories(row, table, longest):
        if missed is None and row.missed():
            missed = history
        if wrongly is None and row.wrongly():
            wrongly = history
        if missed and wrongly:
            break
    return missed, wrongly
