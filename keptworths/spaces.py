"""Spaces: the states of a row that matter for some of its columns, its targets, and the steps between them.

A worth in a state is None or (shape, values), or what else a space says. Values are told apart by numbers: the
value that a plain column has now has the place of this column, values that have passed have greater numbers.
"""

from keptworths.deeds import given_columns, is_kept, reckoned_columns


class Step:
    """What of a deed in one edition matters: the places of the plain columns that it gives a value, the columns
    that it reckons, and the edition behind it."""

    def __init__(self, deed, given, reckoned, now):
        self.deed = deed
        self.given = given
        self.reckoned = reckoned
        self.now = now

    def matters(self):
        """Whether it can lead to another state."""
        return self.deed in (("put",), ("edition",)) or len(self.given) + len(self.reckoned) > 0


class Space:
    """What all spaces do alike. Each one says by itself what a plain worth is and how worths are joined, which
    state is behind a step, and what is looked for."""

    def __init__(self, editions, plain, targets, deeds):
        self._editions = editions
        self._plain = plain
        columns = list(editions[0])
        self._names = columns[:max([columns.index(target) for target in targets], default=-1) + 1]
        self._live = live_columns(editions, targets)
        self._all_steps = [self._steps_in(now, deeds) for now in range(len(editions))]
        self._steps = [[step for step in steps.values() if step.matters()] for steps in self._all_steps]

    def first(self):
        """The state behind the first put."""
        return self.behind((0, (None,) * len(self._names), ()), self._steps[0][0])

    def steps(self, state):
        """The steps from a state that matter, in the order of their deeds."""
        return self._steps[state[0]]

    def _steps_in(self, now, deeds):
        is_last = now == len(self._editions) - 1
        return {deed: self._step(now, deed) for deed in (deeds[:-1] if is_last else deeds)}

    def _step(self, now, deed):
        if deed == ("edition",):
            return Step(deed, [], [], now + 1)
        given = [self._plain.index(column) for column in given_columns(self._plain, deed) if column in self._plain]
        touched = reckoned_columns(self._editions[now], deed)
        return Step(deed, given, [column for column in touched if column in self._live[now]], now)

    def _told(self, now, kept, column):
        lines = self._editions[now]
        if column not in lines:
            return self._plain_worth(column)
        return kept[column] if is_kept(lines, column) else self._worked_out(now, kept, column)

    def _worked_out(self, now, kept, column):
        formula, sources, _ = self._editions[now][column]
        worths = [self._told(now, kept, source) for source in sources]
        if any([worth is None for worth in worths]):
            return None
        return self._joined(formula, worths)

    def _kept(self, worths):
        return dict(zip(self._names, worths))

    def _kept_behind(self, state, step):
        kept = self._kept([self._passed(worth, step) for worth in state[1]])
        for column in step.reckoned:
            kept[column] = self._worked_out(step.now, kept, column)
        return {column: kept[column] if column in self._live[step.now] else None for column in kept}

    def _passed(self, worth, step):
        if not isinstance(worth, tuple):
            return worth
        return (worth[0], self._passed_values(worth[1], step))

    def _passed_values(self, values, step):
        # Numbers below 0 are free: they last only until the values of the state behind the step are numbered.
        return tuple([value - len(self._plain) if value in step.given else value for value in values])

    def _numbered(self, worths):
        # Numbered as they are met, values get the same numbers in all states that differ in nothing else.
        numbers = {place: place for place in range(len(self._plain))}
        for worth in worths:
            if isinstance(worth, tuple):
                for value in worth[1]:
                    if value is not None and value not in numbers:
                        numbers[value] = len(numbers)
        return numbers


def renamed(worth, numbers):
    """A worth with new numbers for its values."""
    if not isinstance(worth, tuple):
        return worth
    return (worth[0], tuple([numbers.get(value) for value in worth[1]]))


def live_columns(editions, targets):
    """For each edition, the columns whose kept worths can matter to the targets from then on."""
    live = []
    later = []
    for lines in editions[::-1]:
        wanted = targets + [column for column in later if is_kept(lines, column)]
        needed = _with_sources(lines, wanted)
        later = [column for column in lines if column in later or (column in needed and is_kept(lines, column))]
        live.append(later)
    return live[::-1]


def _with_sources(lines, wanted):
    found = {column: True for column in wanted}
    for column in list(lines)[::-1]:
        if column in found:
            for source in lines[column][1]:
                found[source] = True
    return found
