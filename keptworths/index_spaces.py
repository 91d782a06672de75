"""The states of a row by which the faults of an index are decided.

A worth is (shape, values): its text with the names of the plain columns, and all their values in it, in order. So
worths are the same exactly if they are equal.
"""

from keptworths.deeds import edition_lines, is_kept
from keptworths.indexes import Change, entries_behind, is_missed, is_wrong
from keptworths.spaces import Space, renamed

FAULT = "fault"
CALM = "calm"


class IndexSpace(Space):
    """States (edition, kept worths, entries), FAULT, or CALM where no fault can come any more."""

    def __init__(self, table, target, way, fault):
        editions = edition_lines(table)
        Space.__init__(self, editions, table.plain, [target], table.deeds())
        self._target = target
        self._way = way
        self._fault = fault
        self._truths = [self._truth(lines, target) for lines in editions]
        self._calm = [self._is_calm(now) for now in range(len(editions))]

    def steps(self, state):
        """The steps from a state that matter, in the order of their deeds."""
        return [] if state == CALM else self._steps[state[0]]

    def is_found(self, state):
        """Whether the fault has come about."""
        return state == FAULT

    def behind(self, state, step):
        """The state behind a step."""
        kept = self._kept_behind(state, step)
        told = self._told(step.now, kept, self._target)
        ahead = [self._passed(entry, step) for entry in state[2]]
        entries = entries_behind(self._way, ahead, self._change(state, step, told))
        if self._has_fault(entries, told):
            return FAULT
        return CALM if self._calm[step.now] else self._state(step.now, kept, entries)

    def _change(self, state, step, told):
        now, worths, _ = state
        old = self._told(now, self._kept(worths), self._target)
        is_put = step.deed == ("put",)
        truth = self._passed(self._truths[now], step)
        return Change(self._passed(old, step), truth, told, is_put, self._target in step.reckoned)

    def _has_fault(self, entries, told):
        return is_missed(entries, told) if self._fault == "missed" else is_wrong(entries, told)

    def _state(self, now, kept, entries):
        worths = [kept[column] for column in self._names]
        numbers = self._numbered(worths)
        # An entry with a value that has passed and is kept nowhere is never told again: it can be left out.
        able = [entry for entry in entries if all([value in numbers for value in entry[1]])]
        found = sorted([renamed(entry, numbers) for entry in able])
        return (now, tuple([renamed(worth, numbers) for worth in worths]), tuple(found))

    def _is_calm(self, now):
        # While the column is kept, its told worth changes only when it is reckoned, and then it is put in; what was
        # told ahead of it is taken out at once, unless the true worth is taken out in its place.
        if self._way == "told":
            return True
        always_kept = all([is_kept(lines, self._target) for lines in self._editions[now:]])
        return always_kept and (self._fault == "missed" or self._way == "written")

    def _truth(self, lines, column):
        if column not in lines:
            return self._plain_worth(column)
        formula, sources, _ = lines[column]
        return self._joined(formula, [self._truth(lines, source) for source in sources])

    def _plain_worth(self, column):
        return (column, (self._plain.index(column),))

    def _joined(self, formula, worths):
        shapes = " ".join([worth[0] for worth in worths])
        return (f"{formula}({shapes})", tuple([value for worth in worths for value in worth[1]]))
