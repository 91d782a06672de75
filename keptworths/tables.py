"""Tables: plain columns, and editions of reckoned ones."""

from keptworths.errors import DoubleName, InvalidEdition, InvalidKind, InvalidName, UnknownColumn

LETTERS = "abcdefghijklmnopqrstuvwxyz"
LONGEST_NAME = 8
HELD = ("read", "follows", "stays")


class Table:
    """Plain columns and editions; a table never changes."""

    def __init__(self, plain, editions):
        _check_plain(plain)
        if not editions:
            raise InvalidEdition(0)
        for index, edition in enumerate(editions):
            _check_edition(plain, edition)
            if _columns(edition) != _columns(editions[0]):
                raise InvalidEdition(index)
        self._plain = list(plain)
        self._editions = _copied(editions)

    @property
    def plain(self):
        """The plain columns."""
        return list(self._plain)

    @property
    def editions(self):
        """The editions, each a list of (column, formula, sources, held)."""
        return _copied(self._editions)

    @property
    def columns(self):
        """The reckoned columns."""
        return _columns(self._editions[0])

    def __getitem__(self, column):
        if column not in _columns(self._editions[0]):
            raise UnknownColumn(column)
        return [
            (formula, list(sources), held)
            for edition in self._editions
            for name, formula, sources, held in edition
            if name == column
        ]

    def __iter__(self):
        raise TypeError("a table is not iterated over")

    def __len__(self):
        return len(self._editions)

    def __eq__(self, other):
        return isinstance(other, Table) and self._plain == other._plain and self._editions == other._editions

    def deeds(self):
        """All deeds, in order."""
        sets = [("set", column) for column in self._plain]
        rewrites = [("rewrite", column) for column in _columns(self._editions[0])]
        return [("put",)] + sets + rewrites + [("edition",)]


def is_name(text):
    """Whether a text can be the name of a column or a formula."""
    return 1 <= len(text) <= LONGEST_NAME and all([sign in LETTERS for sign in text])


def _columns(edition):
    return [line[0] for line in edition]


def _copied(editions):
    return [
        [(column, formula, list(sources), held) for column, formula, sources, held in edition]
        for edition in editions
    ]


def _check_name(name):
    if not is_name(name):
        raise InvalidName(name)


def _check_plain(plain):
    for index, name in enumerate(plain):
        _check_name(name)
        if name in plain[:index]:
            raise DoubleName(name)


def _check_edition(plain, edition):
    ahead = list(plain)
    for column, formula, sources, held in edition:
        _check_name(column)
        _check_name(formula)
        if column in ahead:
            raise DoubleName(column)
        _check_sources(ahead, sources)
        if held not in HELD:
            raise InvalidKind(held)
        ahead.append(column)


def _check_sources(ahead, sources):
    for index, source in enumerate(sources):
        if source not in ahead:
            raise UnknownColumn(source)
        if source in sources[:index]:
            raise DoubleName(source)
