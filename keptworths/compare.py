"""Whether two tables are alike to every reader."""

from keptworths.errors import UnlikeTables
from keptworths.pair_spaces import PairSpace
from keptworths.searches import first_history


def alike(one, other):
    """Whether all told worths of two tables are always the same."""
    return first_unlike(one, other) is None


def first_unlike(one, other):
    """The first history behind which some told worth of two tables is unlike, None if there is none."""
    if one.plain != other.plain or one.columns != other.columns or len(one) != len(other):
        raise UnlikeTables((one.plain + one.columns, other.plain + other.columns))
    return first_history(PairSpace(one, other))
