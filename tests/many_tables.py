"""Many tables, the same ones in each run."""

import random

HELD = ("read", "follows", "stays", "stays")
NAMES = ("a", "b", "k", "l", "m", "n")
COLUMNS = ("c", "d", "e", "f", "g", "h", "i", "j")


def random_edition(chance, plain, columns, formulas, most_sources):
    edition = []
    for index, column in enumerate(columns):
        ahead = list(plain) + list(columns[:index])
        many = min(len(ahead), chance.choice([0] + list(range(1, most_sources + 1)) + [most_sources] * 3))
        edition.append((column, chance.choice(formulas), chance.sample(ahead, many), chance.choice(HELD)))
    return edition


def changed_edition(chance, edition, plain, columns, formulas, most_sources):
    """An edition near another one: some lines stay, some are held otherwise, some are new."""
    other = random_edition(chance, plain, columns, formulas, most_sources)
    changed = []
    for line, new in zip(edition, other):
        kind = chance.randrange(4)
        if kind == 0:
            changed.append(new)
        elif kind == 1:
            changed.append(line[:3] + (new[3],))
        elif kind == 2:
            changed.append((line[0], new[1], line[2], new[3]))
        else:
            changed.append(line)
    return [(column, formula, list(sources), held) for column, formula, sources, held in changed]


def random_table(chance, plain=2, columns=3, editions=3, sources=2):
    """The plain columns and the editions of a table."""
    names = list(NAMES[:plain])
    columns = COLUMNS[:columns]
    formulas = chance.choice(["u", "uv", "uvw", "ab"])
    made = [random_edition(chance, names, columns, formulas, sources)]
    while len(made) < editions:
        made.append(changed_edition(chance, made[-1], names, columns, formulas, sources))
    return names, made


def random_tables(seed, many, **bounds):
    chance = random.Random(seed)
    return [random_table(chance, **bounds) for _ in range(many)]


def held_otherwise(chance, editions, share):
    """Editions with the same formulas, of which a share of the columns is held otherwise."""
    return [
        [line[:3] + (chance.choice(HELD) if chance.random() < share else line[3],) for line in edition]
        for edition in editions
    ]


def random_pairs(seed, many, share, **bounds):
    """Plain columns, and the editions of two tables that are unlike by how some columns are held."""
    chance = random.Random(seed)
    made = [random_table(chance, **bounds) for _ in range(many)]
    return [(plain, editions, held_otherwise(chance, editions, share)) for plain, editions in made]


def random_history(chance, deeds, editions, length):
    """A history of a length; its editions come where they may, in all parts of it."""
    passes = sorted(chance.sample(range(1, length), min(editions, length) - 1))
    return [("put",)] + [("edition",) if at in passes else chance.choice(deeds[:-1]) for at in range(1, length)]
