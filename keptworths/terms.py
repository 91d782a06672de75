"""Terms: worths by numbers, so that worths are the same exactly if their numbers are.

A term is the value that a plain column has now, one that has passed just now, a formula of terms, or a token: a worth
of which nothing matters but which others are the same.
"""


class Terms:
    """All terms that were met, and their numbers."""

    def __init__(self):
        self._numbers = {}
        self._keys = []

    def of_plain(self, place):
        """The value that a plain column has now."""
        return self._number(("plain", place))

    def of_formula(self, formula, parts):
        """A formula of terms."""
        return self._number(("formula", formula, *parts))

    def passed(self, term, given):
        """A term behind a deed that gives the plain columns at some places a value."""
        key = self._keys[term]
        if key[0] == "plain" and key[1] in given:
            return self._number(("passed", key[1]))
        if key[0] == "formula":
            return self.of_formula(key[1], [self.passed(part, given) for part in key[2:]])
        return term

    def reduced(self, atoms):
        """For each of some terms a new one; of these, and of all that can be made of them, the same are the same.

        What formulas make is made of whole atoms, of values of now, and of values that come later. So what is in an
        atom matters only if the atom could be made so, too: all others become tokens.
        """
        whole = {atom: True for atom in atoms}
        made = {}
        tokens = {}
        for atom in atoms:
            if not self._is_made(atom, whole, made):
                tokens.setdefault(atom, self._number(("token", len(tokens))))
        return [self._renewed(atom, tokens) for atom in atoms]

    def _is_made(self, term, whole, made):
        if term not in made:
            key = self._keys[term]
            made[term] = key[0] == "plain"
            if key[0] == "formula":
                parts = [part for part in key[2:] if part not in whole]
                made[term] = all([self._is_made(part, whole, made) for part in parts])
        return made[term]

    def _renewed(self, term, tokens):
        if term in tokens:
            return tokens[term]
        key = self._keys[term]
        if key[0] == "formula":
            return self.of_formula(key[1], [self._renewed(part, tokens) for part in key[2:]])
        return term

    def _number(self, key):
        if key not in self._numbers:
            self._numbers[key] = len(self._keys)
            self._keys.append(key)
        return self._numbers[key]
