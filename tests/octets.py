"""All octets that frames may have, told octet by octet, apart from the program."""

from functools import lru_cache
from itertools import product

LETTER = frozenset(range(97, 123))
SLASH, PLUS, HASH = frozenset([47]), frozenset([43]), frozenset([35])


@lru_cache(maxsize=None)
def step_rows(sort, many):
    """All rows of signs, letters not held apart, of one step that is not the last one."""
    rows = [(LETTER,) * many] if 1 <= many <= 6 else []
    return rows + ([(PLUS,)] if sort == "wish" and many == 1 else [])


@lru_cache(maxsize=None)
def text_rows(sort, many, steps):
    """All rows of signs of texts of so many signs, of at most so many steps."""
    rows = list(step_rows(sort, many)) + ([(HASH,)] if sort == "wish" and many == 1 else [])
    if steps > 1:
        for first in range(1, 7):
            for row in step_rows(sort, first):
                rows += [row + (SLASH,) + rest for rest in text_rows(sort, many - first - 1, steps - 1)]
    return rows if many > 0 else []


def fixed(*octets):
    return [tuple(frozenset([octet]) if isinstance(octet, int) else frozenset(octet) for octet in octets)]


NUMBER, BOOL, WAY = fixed(range(8)), fixed(range(2)), fixed(range(3))
BODY = fixed(range(3), range(256)) + fixed(3, range(232))


def texts(sort, many):
    rows = text_rows(sort, many, 1 if sort == "name" else 5)
    return [(frozenset([many]),) + row for row in rows]


def items_of(kind, many):
    """The lists of rows of the items of a kind, the text, if there is one, having so many signs."""
    if kind == 1:
        return [(texts("name", many), BOOL)]
    if kind == 2:
        return [(BOOL,)]
    if kind == 3:
        return [(NUMBER, texts("wish", many), WAY)]
    if kind == 5:
        return [(NUMBER, texts("wish", many))]
    if kind == 7:
        topics = texts("topic", many)
        return [
            (fixed(0), fixed(8), fixed(0), topics, BODY),
            (fixed(range(1, 3)), NUMBER, BOOL, topics, BODY),
        ]
    return [()] if kind == 12 else [(NUMBER,)]


@lru_cache(maxsize=None)
def frame_rows(kind, length):
    """All rows of sets of octets of frames of a kind with so many octets behind the second one."""
    rest = {1: 2, 3: 3, 5: 2, 7: 6}.get(kind)
    rows = []
    for items in items_of(kind, 0 if rest is None else length - rest):
        for parts in product(*items):
            row = sum(parts, ())
            if len(row) == length:
                rows.append(row)
    return rows


def fault_at(octets):
    """The index of the first octet with which no frame goes on, None if there is none."""
    if not octets:
        return None
    if not 1 <= octets[0] <= 12:
        return 0
    if len(octets) == 1:
        return None
    rows = frame_rows(octets[0], octets[1])
    if not rows:
        return 1
    for at, octet in enumerate(octets[2:], 2):
        rows = [row for row in rows if len(row) <= at - 2 or octet in row[at - 2]]
        if not rows:
            return at
        if len(rows[0]) <= at - 2:
            return None
    return None
