"""What deeds give a value, and what they reckon."""


def edition_lines(table):
    """The editions of a table, each a dict from its columns to (formula, sources, held), in order."""
    return [
        {column: (formula, sources, held) for column, formula, sources, held in edition}
        for edition in table.editions
    ]


def is_kept(lines, column):
    """Whether an edition keeps a reckoned column."""
    return lines[column][2] != "read"


def given_columns(plain, deed):
    """The plain columns that a deed gives a value."""
    if deed[0] == "put":
        return list(plain)
    return [deed[1]] if deed[0] == "set" else []


def reckoned_columns(lines, deed):
    """The kept columns that a deed reckons by an edition, in order."""
    if deed[0] == "put":
        return [column for column in lines if is_kept(lines, column)]
    if deed[0] == "rewrite":
        return [deed[1]] if is_kept(lines, deed[1]) else []
    return _following(lines, deed[1]) if deed[0] == "set" else []


def _following(lines, plain):
    # A read column passes a change on to those that follow it; one that stays does not, for its worth is the same.
    touched = {plain: True}
    for column in lines:
        _, sources, held = lines[column]
        if held != "stays" and any([source in touched for source in sources]):
            touched[column] = True
    return [column for column in lines if column in touched and is_kept(lines, column)]
