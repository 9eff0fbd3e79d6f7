"""How the tests write calls and answers."""

from bellrowsdesk.book import answers

TOP = 18446744073709551615
LOWEST = -9223372036854775808
HIGHEST = 9223372036854775807
ROUNDS = list(range(16))
NAMES = "1234567890ETABCD"
CALLS = ("right", "change", "times", "back", "power", "order", "odd", "rank", "unrank", "like",
         "row", "text", "read", "write")


def call(name, *parts):
    """A call as it stands in the list: its number, its whole numbers, its lists with their sizes."""
    flat = [CALLS.index(name)]
    for part in parts:
        if isinstance(part, str):
            part = list(part.encode("ascii"))
        if isinstance(part, list):
            flat.append(len(part))
            flat.extend(part)
        else:
            flat.append(part)
    return flat


def split(given):
    """The answers of a list of answers, without their sizes."""
    found = []
    place = 0
    while place < len(given):
        size = given[place]
        found.append(given[place + 1:place + 1 + size])
        place += 1 + size
    assert place == len(given)
    return found


def ask(name, *parts):
    """The one answer to one call."""
    given = answers(call(name, *parts))
    assert all(type(number) is int for number in given)
    found = split(given)
    assert len(found) == 1
    return found[0]


def number(value):
    return [value, 0, 0]


def with_list(value, numbers):
    return [value, 0, len(numbers)] + numbers


def with_bytes(text):
    return [len(text), len(text)] + list(text.encode("ascii")) + [0]


def no_text(place):
    return [-6, 0, 2, 1, place]


def wrong_change(place):
    return [-6, 0, 2, 2, place]


REFUSED = number(-1)


def row(names):
    """The row that names tell, the places behind filled up."""
    bells = [NAMES.index(name) for name in names]
    return bells + ROUNDS[len(bells):]


def bits(names):
    """The number of the change that makes these places, and no others."""
    return sum(2 ** NAMES.index(name) for name in names)


def no_rows_of_16():
    """Lists that are no row of 16 bells, and so of no n."""
    return [
        [],
        ROUNDS[:15],
        ROUNDS + [16],
        ROUNDS[:15] + [14],
        ROUNDS[:15] + [16],
        [16] + ROUNDS[1:],
        [1] + ROUNDS[1:],
        [TOP] * 16,
        ROUNDS[:15] + [TOP],
        list(range(1, 17)),
        list(range(300)),
        [0] * 300,
        [TOP] * 300,
    ]
