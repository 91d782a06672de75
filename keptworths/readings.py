"""Tables and histories from their texts."""

from keptworths.errors import Unreadable, WorthError
from keptworths.tables import Table, is_name
from keptworths.texts import show_table


def read_table(text):
    """The table with a text."""
    head, *editions = text.split("; ")
    _, _, plain = head.partition(" ")
    try:
        table = Table(plain.split(" "), [_read_edition(edition) for edition in editions])
    except WorthError:
        raise Unreadable(text) from None
    # Cutting overlooks signs that are missing or wrong between the parts; the text of what was read has the right ones.
    if show_table(table) != text:
        raise Unreadable(text)
    return table


def read_history(text):
    """The list of deeds with a text."""
    deeds = [tuple(deed.split(" ")) for deed in text.split(", ")] if text else []
    if not all([_is_deed(deed) for deed in deeds]):
        raise Unreadable(text)
    return deeds


def _read_edition(text):
    return [_read_line(line) for line in text.split(", ")] if text else []


def _read_line(text):
    column, _, rest = text.partition(" = ")
    formula, _, rest = rest.partition("(")
    sources, _, held = rest.partition(") ")
    return (column, formula, sources.split(" ") if sources else [], held)


def _is_deed(deed):
    if len(deed) == 1:
        return deed[0] in ("put", "edition")
    return len(deed) == 2 and deed[0] in ("set", "rewrite") and is_name(deed[1])
