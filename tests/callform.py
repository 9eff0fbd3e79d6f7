"""How the tests write calls and answers."""

from bellrowsdesk.book import answers

TOP = 18446744073709551615
LOWEST = -9223372036854775808
HIGHEST = 9223372036854775807
ROUNDS = list(range(16))
NAMES = "1234567890ETABCD"
CALLS = ("right", "change", "times", "back", "power", "order", "odd", "rank", "unrank", "like",
         "row", "text", "read", "write", "ends", "hunts", "course", "stay", "falses", "open", "block",
         "lengths", "bar", "begin", "search", "touch", "prove", "music")


def call(name, *parts):
    """A call as it stands in the list: its number, its whole numbers, its lists with their sizes."""
    flat = [CALLS.index(name)]
    for part in parts:
        if isinstance(part, str):
            part = list(part.encode("ascii"))
        if isinstance(part, list):
            flat.append(len(part))
            flat.extend(part)
        else:
            flat.append(part)
    return flat


def split(given):
    """The answers of a list of answers, without their sizes."""
    found = []
    place = 0
    while place < len(given):
        size = given[place]
        found.append(given[place + 1:place + 1 + size])
        place += 1 + size
    assert place == len(given)
    return found


def ask(name, *parts):
    """The one answer to one call."""
    given = answers(call(name, *parts))
    assert all(type(number) is int for number in given)
    found = split(given)
    assert len(found) == 1
    return found[0]


def ask_all(*calls):
    """The answers to several calls of one list, which is no longer than may be, and as it was afterwards."""
    handed = [value for one in calls for value in one]
    assert len(calls) <= 400 and len(handed) <= 15800
    assert sum(one[1] for one in calls if one[0] == CALLS.index("search")) <= 1000
    kept = list(handed)
    given = answers(handed)
    assert handed == kept
    assert all(type(value) is int for value in given)
    found = split(given)
    assert len(found) == len(calls)
    return found


def last(*calls):
    """The answer to the last of several calls of one list."""
    return ask_all(*calls)[-1]


def opened(n, *blocks):
    """The calls that open a book with blocks."""
    return [call("open", n)] + [call("block", changes) for changes in blocks]


def number(value):
    return [value, 0, 0]


def with_list(value, numbers):
    return [value, 0, len(numbers)] + numbers


def with_bytes(text):
    return [len(text), len(text)] + list(text.encode("ascii")) + [0]


def no_text(place):
    return [-6, 0, 2, 1, place]


def wrong_change(place):
    return [-6, 0, 2, 2, place]


REFUSED = number(-1)
NO_BOOK = number(-8)


def row(names):
    """The row that names tell, the places behind filled up."""
    bells = [NAMES.index(name) for name in names]
    return bells + ROUNDS[len(bells):]


def bits(names):
    """The number of the change that makes these places, and no others."""
    return sum(2 ** NAMES.index(name) for name in names)


def block(*names):
    """Changes, each told by the places it makes; '' is a cross."""
    return [bits(name) for name in names]


def after(n, m, r):
    """The row after the change, or None: the pairs are looked for from the front."""
    changed = list(r)
    place = 0
    while place < n:
        if m & (1 << place):
            place += 1
        elif place + 1 < n and not m & (1 << (place + 1)):
            changed[place], changed[place + 1] = r[place + 1], r[place]
            place += 2
        else:
            return None
    return changed


def rung(n, changes, r):
    """The row rung first, and those after each of the changes."""
    rows = [list(r)]
    for m in changes:
        rows.append(after(n, m, rows[-1]))
    return rows


def changes_of(n):
    """Every change of n bells."""
    return [m for m in range(2 ** n) if after(n, m, ROUNDS) is not None]


def hunting(*sizes):
    """Two changes, rung in turn: the bells hunt in groups of these sizes, from the front."""
    there = back = first = 0
    for size in sizes:
        last = 1 << (first + size - 1)
        there |= last if size % 2 else 0
        back |= (1 << first) | (0 if size % 2 else last)
        first += size
    return [there, back]


def no_blocks_of_4():
    """Lists that are no block of 4 bells."""
    return [[], [0] * 41, [0] * 300, [2], [0, 2], [2, 0], [0] * 39 + [2], [16], [0, 16], [TOP], [TOP] * 40, [TOP] * 300]


def no_rows_of_16():
    """Lists that are no row of 16 bells, and so of no n."""
    return [
        [],
        ROUNDS[:15],
        ROUNDS + [16],
        ROUNDS[:15] + [14],
        ROUNDS[:15] + [16],
        [16] + ROUNDS[1:],
        [1] + ROUNDS[1:],
        [TOP] * 16,
        ROUNDS[:15] + [TOP],
        list(range(1, 17)),
        list(range(300)),
        [0] * 300,
        [TOP] * 300,
    ]
