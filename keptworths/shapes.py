"""Shapes: what worths are, but for the numbers of the plain values in them."""


class Shapes:
    """The numbers of all parts of the true worths of some columns by all editions.

    `tops` has, for each of these columns, the numbers of its true worths, edition by edition.
    """

    def __init__(self, editions, columns):
        self._found = {}
        self._plain = []
        self.tops = {column: [self._number(lines, column) for lines in editions] for column in columns}

    def of_plain(self, column):
        """The number of a plain column, None if it is in no true worth."""
        return self._found.get(("plain", column))

    def of_formula(self, formula, shapes):
        """The number of a formula of parts, None if it is in no true worth."""
        return self._found.get(("formula", formula, tuple(shapes)))

    def plain_columns(self, shape):
        """The plain columns in what has a number."""
        return self._plain[shape]

    def _number(self, lines, column):
        key = ("plain", column)
        inner = [column]
        if column in lines:
            formula, sources, _ = lines[column]
            parts = [self._number(lines, source) for source in sources]
            key = ("formula", formula, tuple(parts))
            inner = [plain for part in parts for plain in self._plain[part]]
        if key not in self._found:
            self._found[key] = len(self._found)
            self._plain.append(inner)
        return self._found[key]
