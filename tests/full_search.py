"""A search through all states of a row, whose worths stay whole: only the numbers of plain values are left out.

It leaves out nothing else that a row holds, so it is slow, and open where there are too many states; but where it
ends by itself, it has gone through all histories, of whatever length.
"""

from model import Replay


def leaves(worth):
    if worth is None:
        return []
    if worth[0] == "plain":
        return [worth]
    return [leaf for source in worth[2] for leaf in leaves(source)]


def renumbered(worth, numbers):
    if worth is None:
        return None
    if worth[0] == "plain":
        return ("plain", worth[1], numbers[worth])
    return ("formula", worth[1], tuple(renumbered(source, numbers) for source in worth[2]))


class State(Replay):
    """A replay that goes on, and can be told as a key that is the same for all states alike."""

    def __init__(self, plain, editions, indexed=None):
        Replay.__init__(self, plain, editions, [("put",)], indexed)

    def copy(self):
        other = State.__new__(State)
        other.__dict__.update(self.__dict__)
        other.numbers = dict(self.numbers)
        other.kept = dict(self.kept)
        other.moments = list(self.moments)
        other.entries = {way: list(entries) for way, entries in self.entries.items()}
        return other

    def behind(self, deed):
        other = self.copy()
        other._do(deed)
        return other

    def key(self, way):
        """What of the state can matter later, to the entries of a way, to what is "now", or to the standings: entries
        are told again only if all their values are at hand."""
        numbers = {("plain", column, number): 0 for column, number in self.numbers.items()}
        columns = list(self.editions[0])
        for column in columns:
            for leaf in leaves(self.kept.get(column)):
                numbers.setdefault(leaf, len(numbers))
        kept = tuple(renumbered(self.kept.get(column), numbers) for column in columns)
        if way == "now":
            return (self.edition, kept)
        if way:
            able = [entry for entry in self.entries[way] if all(leaf in numbers for leaf in leaves(entry))]
            return (self.edition, kept, frozenset(renumbered(entry, numbers) for entry in able))
        names = list(numbers)
        stood = frozenset(
            (numbers[one], one[1], numbers[other], other[1])
            for one in names for other in names
            if any(moment[one[1]] == one[2] and moment[other[1]] == other[2] for moment in self.moments)
        )
        return (self.edition, kept, stood)


class Pair:
    """Two states with the same history, as one."""

    def __init__(self, one, other):
        self.both = (one, other)
        self.edition = one.edition
        self.editions = one.editions

    def behind(self, deed):
        return Pair(*[state.behind(deed) for state in self.both])

    def is_unlike(self):
        one, other = self.both
        return any(one.told(column) != other.told(column) for column in one.editions[0])

    def key(self, _):
        numbers = {("plain", column, number): 0 for column, number in self.both[0].numbers.items()}
        worths = [state.kept.get(column) for state in self.both for column in state.editions[0]]
        for worth in worths:
            for leaf in leaves(worth):
                numbers.setdefault(leaf, len(numbers))
        return (self.edition, tuple(renumbered(worth, numbers) for worth in worths))


def search(start, deeds, told, wanted, most, way=None):
    """The first histories to all that `told` tells of a state, and up to which length none is overlooked: None if
    there is no such bound, since all states are met, or all that is wanted is found."""
    waiting = [(start, [("put",)])]
    met = {start.key(way)}
    found = {thing: [("put",)] for thing in told(start)}
    for state, history in waiting:
        if all(thing in found for thing in wanted):
            return found, None
        if len(waiting) > most:
            return found, len(history)
        for deed in deeds:
            if deed == ("edition",) and state.edition == len(state.editions) - 1:
                continue
            behind = state.behind(deed)
            for thing in told(behind):
                found.setdefault(thing, history + [deed])
            if behind.key(way) not in met:
                met.add(behind.key(way))
                waiting.append((behind, history + [deed]))
    return found, None
