"""Touches: their rows, and which of them are alike. A block is here its rows from rounds, one after each change."""

from bellrowsdesk.rows import product, rounds

LONGEST_TOUCH = 240


def rows_behind(row, block):
    """The rows to which a block leads from a row."""
    return [product(row, step) for step in block]


def change_count(blocks, touch):
    return sum([len(blocks[number]) for number in touch])


def touch_rows(blocks, touch):
    """Rounds, and the row after each change of the touch."""
    rows = [rounds()]
    for number in touch:
        rows.extend(rows_behind(rows[-1], blocks[number]))
    return rows


def first_alike(rows):
    """The numbers of the first row that comes again and of where it does, row 0 and the last aside; or None."""
    numbers = {}
    for number, row in enumerate(rows):
        bells = tuple(row)
        before = numbers.get(bells)
        if before is not None and not (before == 0 and number == len(rows) - 1):
            return [before, number]
        numbers[bells] = number
    return None
