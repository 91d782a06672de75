"""The document told once more, as plainly as can be: a history is replayed from its beginning for every question.

Worths are tuples all through here, so that they can be members of sets; `listed` gives them their lists.
"""


class Replay:
    """What holds behind a history of a table; with a column, the entries of its indexes, by their ways."""

    def __init__(self, plain, editions, history, indexed=None):
        self.plain = plain
        self.editions = [{column: rest for column, *rest in edition} for edition in editions]
        self.edition = 0
        self.numbers = {column: 0 for column in plain}
        self.kept = {}
        self.moments = []
        self.indexed = indexed
        self.entries = {way: [] for way in ("told", "written", "reckoned")}
        for deed in history:
            self._do(deed)

    def told(self, column):
        if column in self.numbers:
            return ("plain", column, self.numbers[column])
        if self.editions[self.edition][column][2] == "read":
            return self._reckoned(column)
        return self.kept.get(column)

    def true(self, column, edition, numbers=None):
        numbers = numbers or self.numbers
        if column in numbers:
            return ("plain", column, numbers[column])
        formula, sources, _ = self.editions[edition][column]
        return ("formula", formula, tuple(self.true(source, edition, numbers) for source in sources))

    def standing(self, column):
        told = self.told(column)
        if told is None:
            return "lacks"
        if told == self.true(column, self.edition):
            return "now"
        for edition in range(self.edition + 1):
            if any(told == self.true(column, edition, numbers) for numbers in self.moments):
                return "old"
        return "nobody"

    def missed(self, way):
        told = self.told(self.indexed)
        return told is not None and told not in self.entries[way]

    def wrongly(self, way):
        return any(entry != self.told(self.indexed) for entry in self.entries[way])

    def _do(self, deed):
        column = self.indexed
        told = self.told(column) if column and self.moments else None
        true = self.true(column, self.edition) if column else None
        reckoned = getattr(self, "_" + deed[0])(*deed[1:])
        self.moments.append(dict(self.numbers))
        if column:
            self._index(deed, told, true, reckoned)

    def _put(self):
        for column in self.plain:
            self.numbers[column] += 1
        kept = [column for column, line in self.editions[self.edition].items() if line[2] != "read"]
        for column in kept:
            self.kept[column] = self._reckoned(column)
        return kept

    def _set(self, plain):
        self.numbers[plain] += 1
        reckoned = []
        for column, (_, _, held) in self.editions[self.edition].items():
            if held == "follows" and self._hears(column, plain, reckoned):
                self.kept[column] = self._reckoned(column)
                reckoned.append(column)
        return reckoned

    def _hears(self, column, plain, reckoned):
        for source in self.editions[self.edition][column][1]:
            if source == plain or source in reckoned:
                return True
            read = source not in self.numbers and self.editions[self.edition][source][2] == "read"
            if read and self._hears(source, plain, reckoned):
                return True
        return False

    def _rewrite(self, column):
        if self.editions[self.edition][column][2] == "read":
            return []
        self.kept[column] = self._reckoned(column)
        return [column]

    def _edition(self):
        self.edition += 1
        return []

    def _reckoned(self, column):
        formula, sources, _ = self.editions[self.edition][column]
        worths = tuple(self.told(source) for source in sources)
        return None if None in worths else ("formula", formula, worths)

    def _index(self, deed, old, true, reckoned):
        new = self.told(self.indexed)
        if deed == ("put",):
            self.entries = {way: [] for way in self.entries}
            changes = [("told", None), ("written", None), ("reckoned", None)]
        else:
            changes = [("told", old)] if old != new else []
            if self.indexed in reckoned:
                changes += [("written", old), ("reckoned", true)]
        for way, out in changes:
            if out in self.entries[way]:
                self.entries[way].remove(out)
            if new is not None and new not in self.entries[way]:
                self.entries[way].append(new)


def listed(worth):
    """A worth as the program tells it."""
    if worth is None or worth[0] == "plain":
        return worth
    return ("formula", worth[1], [listed(source) for source in worth[2]])
