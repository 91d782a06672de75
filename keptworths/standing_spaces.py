"""The states of a row by which the standing of a column is decided.

A kept worth matters only if it can be a part of a true worth of the column by some edition: then it is (shape,
values), the number of such a part and the one value of each plain column in it, None where it has none. Else it is
spoilt, and so is all that is reckoned from it.
"""

from keptworths.deeds import edition_lines
from keptworths.shapes import Shapes
from keptworths.spaces import Space, renamed


class StandingSpace(Space):
    """States (edition, kept worths, mates): mates are the pairs of values that stood at one moment.

    The worth of the target is a part of no other one that matters. So once a value in it has passed, a number is
    enough: the first edition from now on by which it is old. What is spoilt is old by one that never comes.
    """

    def __init__(self, table, target, wanted):
        editions = edition_lines(table)
        self._target = target
        self._wanted = wanted
        self._spoilt = len(editions)
        # Whether a worth lacks does not hang on which worth it would be: without shapes, there are fewer states.
        self._shapes = Shapes([] if wanted == ["lacks"] else editions, [target])
        self._tops = self._shapes.tops[target]
        plain = [column for column in table.plain if self._shapes.of_plain(column) is not None]
        Space.__init__(self, editions, plain, [target], table.deeds())

    def is_found(self, state):
        """Whether the target has a standing that is looked for."""
        now, worths, mates = state
        told = self._told(now, self._kept(worths), self._target)
        return self._standing(now, self._own(now, told, mates)) in self._wanted

    def behind(self, state, step):
        """The state behind a step."""
        kept = self._kept_behind(state, step)
        pairs = [self._passed_values(pair, step) for pair in state[2]] + self._new_pairs(step)
        worths = [self._sound(kept[column], pairs) for column in self._names[:-1]]
        worths.append(self._own(step.now, kept[self._target], pairs))
        numbers = self._numbered(worths)
        mates = [(numbers[one], numbers[other]) for one, other in pairs if one in numbers and other in numbers]
        return (step.now, tuple([renamed(worth, numbers) for worth in worths]), tuple(sorted(mates)))

    def _new_pairs(self, step):
        places = range(len(self._plain))
        pairs = [(one, other) for other in places for one in places if one < other]
        return [(one, other) for one, other in pairs if one in step.given or other in step.given]

    def _standing(self, now, told):
        if told is None:
            return "lacks"
        if isinstance(told, int):
            return "old" if told <= now else "nobody"
        if told[0] == self._tops[now]:
            return "now"
        return "old" if told[0] in self._tops[:now] else "nobody"

    def _sound(self, worth, pairs):
        if not isinstance(worth, tuple):
            return worth
        values = [value for value in worth[1] if value is not None]
        apart = [other for at, other in enumerate(values) for one in values[:at] if (one, other) not in pairs]
        return self._spoilt if apart else worth

    def _own(self, now, worth, pairs):
        sound = self._sound(worth, pairs)
        if sound is None:
            return None
        if isinstance(sound, int):
            return max(now, sound)
        if sound[0] not in self._tops:
            return self._spoilt
        is_fresh = all([value is None or 0 <= value < len(self._plain) for value in sound[1]])
        return sound if is_fresh else max(now, self._tops.index(sound[0]))

    def _plain_worth(self, column):
        shape = self._shapes.of_plain(column)
        if shape is None:
            return self._spoilt
        return (shape, tuple([place if name == column else None for place, name in enumerate(self._plain)]))

    def _joined(self, formula, worths):
        if any([isinstance(worth, int) for worth in worths]):
            return self._spoilt
        shape = self._shapes.of_formula(formula, [worth[0] for worth in worths])
        values = [_values_at(worths, place) for place in range(len(self._plain))]
        if shape is None or any([len(unlike) > 1 for unlike in values]):
            return self._spoilt
        return (shape, tuple([unlike[0] if unlike else None for unlike in values]))


def _values_at(worths, place):
    return sorted({worth[1][place] for worth in worths if worth[1][place] is not None})
