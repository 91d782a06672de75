"""Moments of a row, and the worths of its columns at them."""

from keptworths.deeds import given_columns, is_kept, reckoned_columns


class Moment:
    """What a row holds behind one deed: the edition now, the numbers of plain values, what is kept."""

    def __init__(self, now, counts, kept):
        self.now = now
        self.counts = counts
        self.kept = kept


def moment_behind(editions, moment, deed):
    """The moment behind a deed that is done at another moment, which stays as it is."""
    if deed[0] == "edition":
        return Moment(moment.now + 1, moment.counts, moment.kept)
    given = given_columns(list(moment.counts), deed)
    counts = {column: count + 1 if column in given else count for column, count in moment.counts.items()}
    behind = Moment(moment.now, counts, dict(moment.kept))
    for column in reckoned_columns(editions[moment.now], deed):
        behind.kept[column] = _reckoned(editions[moment.now], behind, column)
    return behind


def told_worth(editions, moment, column):
    """What a column is told as at a moment."""
    return _told(editions[moment.now], moment, column)


def true_worth(lines, counts, column):
    """What a column is by the formulas of one edition all through."""
    if column in counts:
        return ("plain", column, counts[column])
    formula, sources, _ = lines[column]
    return ("formula", formula, [true_worth(lines, counts, source) for source in sources])


def copied(worth):
    """A worth in new lists, each of which stands in one place alone."""
    if worth is None or worth[0] == "plain":
        return worth
    return ("formula", worth[1], [copied(source) for source in worth[2]])


def _told(lines, moment, column):
    if column in moment.counts:
        return ("plain", column, moment.counts[column])
    if is_kept(lines, column):
        return moment.kept.get(column)
    return _reckoned(lines, moment, column)


def _reckoned(lines, moment, column):
    formula, sources, _ = lines[column]
    worths = [_told(lines, moment, source) for source in sources]
    if any([worth is None for worth in worths]):
        return None
    return ("formula", formula, worths)
