"""Indexes: what a deed changes in the entries of a row."""

WAYS = ("told", "written", "reckoned")


class Change:
    """What a deed did to the column of an index: the worths told ahead of it and behind it, the true one ahead."""

    def __init__(self, old, truth, new, is_put, is_reckoned):
        self.old = old
        self.truth = truth
        self.new = new
        self.is_put = is_put
        self.is_reckoned = is_reckoned


def entries_behind(way, entries, change):
    """The entries behind a deed; worths may be anything that can be compared, None where one lacks."""
    if change.is_put:
        return _exchanged([], None, change.new)
    if way == "told":
        return _exchanged(entries, change.old, change.new) if change.old != change.new else entries
    if not change.is_reckoned:
        return entries
    return _exchanged(entries, change.old if way == "written" else change.truth, change.new)


def is_missed(entries, told):
    """Whether a search by the told worth misses the row."""
    return told is not None and told not in entries


def is_wrong(entries, told):
    """Whether a search by some entry finds the row wrongly."""
    return any([entry != told for entry in entries])


def _exchanged(entries, out, into):
    rest = [entry for entry in entries if entry != out]
    return rest if into is None or into in rest else rest + [into]
