"""Which standings of a column and which faults of an index come about, and by which first history."""

from keptworths.errors import InvalidKind, UnknownColumn
from keptworths.index_spaces import IndexSpace
from keptworths.indexes import WAYS
from keptworths.searches import first_history
from keptworths.standing_spaces import StandingSpace

STANDINGS = ("now", "old", "lacks", "nobody")


def first(table, column, standing):
    """The first history behind which a reckoned column has a standing, None if there is none."""
    _check(table, column, standing, STANDINGS)
    return first_history(StandingSpace(table, column, [standing]))


def comes(table, column):
    """The standings that a reckoned column can have."""
    return [standing for standing in STANDINGS if first(table, column, standing) is not None]


def always_now(table):
    """The reckoned columns whose standing is always "now"."""
    others = ["old", "lacks", "nobody"]
    return [column for column in table.columns if first_history(StandingSpace(table, column, others)) is None]


def first_missed(table, column, way):
    """The first history behind which a row with an index on a reckoned column is missed, None if there is none."""
    _check(table, column, way, WAYS)
    return first_history(IndexSpace(table, column, way, "missed"))


def first_wrongly(table, column, way):
    """The first history behind which a row with an index on a reckoned column is found wrongly, None if none is."""
    _check(table, column, way, WAYS)
    return first_history(IndexSpace(table, column, way, "wrongly"))


def _check(table, column, word, words):
    if column not in table.columns:
        raise UnknownColumn(column)
    if word not in words:
        raise InvalidKind(word)
