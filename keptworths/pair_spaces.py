"""The states of two rows with the same history, by which is decided whether they are always told alike."""

from keptworths.deeds import edition_lines
from keptworths.spaces import Space
from keptworths.terms import Terms

UNLIKE = "unlike"


class Side(Space):
    """One of the two rows; its worths are terms, and equal ones are the same number in both rows."""

    def __init__(self, table, terms):
        self._terms = terms
        Space.__init__(self, edition_lines(table), table.plain, table.columns, table.deeds())

    def steps_by_deeds(self, now):
        """The steps of all deeds in an edition, also those that change nothing here."""
        return list(self._all_steps[now].values())

    def worths_behind(self, state, step):
        """The kept worths behind a step from a state (edition, kept worths)."""
        kept = self._kept_behind(state, step)
        return tuple([kept[column] for column in self._names])

    def told(self, now, worths):
        """The told worths of all columns."""
        kept = self._kept(worths)
        return [self._told(now, kept, column) for column in self._names]

    def _passed(self, worth, step):
        return None if worth is None else self._terms.passed(worth, step.given)

    def _plain_worth(self, column):
        return self._terms.of_plain(self._plain.index(column))

    def _joined(self, formula, worths):
        return self._terms.of_formula(formula, worths)


class PairStep:
    """The steps of one deed in both rows."""

    def __init__(self, one, other):
        self.deed = one.deed
        self.now = one.now
        self.one = one
        self.other = other

    def matters(self):
        """Whether it can lead to another state."""
        return self.one.matters() or self.other.matters()


class PairSpace:
    """States (edition, kept worths of one row, those of the other), or UNLIKE, which is looked for."""

    def __init__(self, one, other):
        self._terms = Terms()
        self._one = Side(one, self._terms)
        self._other = Side(other, self._terms)
        self._steps = [self._steps_in(now) for now in range(len(one))]
        self._none = (None,) * len(one.columns)

    def first(self):
        """The state behind the first put."""
        return self.behind((0, self._none, self._none), self._steps[0][0])

    def steps(self, state):
        """The steps from a state that matter, in the order of their deeds."""
        return self._steps[state[0]]

    def is_found(self, state):
        """Whether some told worth is unlike."""
        return state == UNLIKE

    def behind(self, state, step):
        """The state behind a step."""
        one = self._one.worths_behind((state[0], state[1]), step.one)
        other = self._other.worths_behind((state[0], state[2]), step.other)
        if self._one.told(step.now, one) != self._other.told(step.now, other):
            return UNLIKE
        atoms = [worth for worth in one + other if worth is not None]
        new = dict(zip(atoms, self._terms.reduced(atoms)))
        return (step.now, tuple([new.get(worth) for worth in one]), tuple([new.get(worth) for worth in other]))

    def _steps_in(self, now):
        ones = self._one.steps_by_deeds(now)
        others = self._other.steps_by_deeds(now)
        pairs = [PairStep(one, other) for one, other in zip(ones, others)]
        return [pair for pair in pairs if pair.matters()]
