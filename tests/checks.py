"""What several tests ask for."""

from keptworths.errors import WorthError
from keptworths.tables import Table


def lists_in(value):
    """All lists in a value, each as often as it stands in it."""
    if not isinstance(value, (list, tuple)):
        return []
    below = [found for item in value for found in lists_in(item)]
    return ([value] if isinstance(value, list) else []) + below


def spoil(value):
    """Changes every list in a value."""
    for found in lists_in(value):
        found.append("spoilt")
        found.reverse()


def check_raises(case, error, value, call, *arguments, **named):
    """That a call raises just this error, with just this value."""
    with case.assertRaises(WorthError) as caught:
        call(*arguments, **named)
    case.assertIs(type(caught.exception), error)
    case.assertEqual(caught.exception.value, value)
    case.assertIs(type(caught.exception.value), type(value))


def check_new_lists(case, tell):
    """That what is told is new each time, each list in one place, and can be changed by whoever has it."""
    one, other = tell(), tell()
    case.assertEqual(one, other)
    found = lists_in(one) + lists_in(other)
    case.assertEqual(len(found), len({id(item) for item in found}))
    spoil(one)
    spoil(other)
    third = tell()
    case.assertFalse(any("spoilt" in item for item in lists_in(third)))
    return third


def edition(*lines):
    """Lines told as `c f ab stays`; what has no source is told with a dot."""
    told = [line.split() for line in lines]
    return [(column, formula, [] if sources == "." else list(sources), held) for column, formula, sources, held in told]


def b_column(*lines):
    """A table whose one reckoned column has these (formula, held), edition by edition."""
    return Table(["a"], [[("b", formula, ["a"], held)] for formula, held in lines])
