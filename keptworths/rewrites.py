"""Which deeds make all columns "now" again, whatever has been."""

from keptworths.errors import InvalidDeed, InvalidEdition
from keptworths.searches import states_met
from keptworths.truth_spaces import TruthSpace


def settles(table, deeds):
    """Whether all reckoned columns are "now" behind some deeds, behind every history."""
    return unsettled(table, deeds) is None


def unsettled(table, deeds):
    """The first history behind which some deeds leave a column that is not "now", None if there is none."""
    _check_deeds(table, deeds)
    space = TruthSpace(table)
    for state, history in states_met(space):
        if not _is_settled(space, table, state, deeds):
            return history
    return None


def settled_at(table, edition, deeds):
    """Whether some deeds settle all histories in which an edition is the one now."""
    _check_deeds(table, deeds)
    if not 0 <= edition < len(table):
        raise InvalidEdition(edition)
    space = TruthSpace(table)
    states = [state for state, _ in states_met(space) if state[0] == edition]
    return _are_settled(space, table, states, deeds)


def least(table):
    """All lists of the fewest rewrites, each of another column, that settle."""
    space = TruthSpace(table)
    states = [state for state, _ in states_met(space)]
    many = 0
    found = []
    # It comes to an end: to rewrite all columns, in order, settles.
    while not found:
        found = [deeds for deeds in _rewrites(table.columns, many) if _are_settled(space, table, states, deeds)]
        many += 1
    return found


def safe_orders(table):
    """All orders in which the columns that some edition keeps can be rewritten, each being "now" from then on."""
    space = TruthSpace(table)
    states = [state for state, _ in states_met(space)]
    kept = [column for column in table.columns if any([held != "read" for _, _, held in table[column]])]
    return [deeds for deeds in _rewrites(kept, len(kept)) if _are_safe(space, states, deeds)]


def _check_deeds(table, deeds):
    known = table.deeds()[:-1]
    for deed in deeds:
        if deed not in known:
            raise InvalidDeed(deed)


def _is_settled(space, table, state, deeds):
    for deed in deeds:
        state = space.behind_deed(state, deed)
    return space.are_now(state, table.columns)


def _are_settled(space, table, states, deeds):
    for state in states:
        if not _is_settled(space, table, state, deeds):
            return False
    return True


def _is_safe(space, state, deeds):
    rewritten = []
    for deed in deeds:
        state = space.behind_deed(state, deed)
        rewritten.append(deed[1])
        if not space.are_now(state, rewritten):
            return False
    return True


def _are_safe(space, states, deeds):
    for state in states:
        if not _is_safe(space, state, deeds):
            return False
    return True


def _rewrites(columns, many):
    if many == 0:
        return [[]]
    lists = []
    for column in columns:
        others = [other for other in columns if other != column]
        lists.extend([[("rewrite", column)] + rest for rest in _rewrites(others, many - 1)])
    return lists
