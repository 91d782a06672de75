"""The texts of tables and of histories."""


def show_table(table):
    """The text of a table: its plain columns, then its editions."""
    editions = [", ".join([_shown_line(line) for line in edition]) for edition in table.editions]
    plain = " ".join(table.plain)
    return "; ".join([f"plain {plain}"] + editions)


def show_history(deeds):
    """The text of a list of deeds, the empty one if there is none."""
    return ", ".join([" ".join(deed) for deed in deeds])


def _shown_line(line):
    column, formula, sources, held = line
    inner = " ".join(sources)
    return f"{column} = {formula}({inner}) {held}"
