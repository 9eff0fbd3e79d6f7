"""Changes, told as a number with a bit for each place that is made, and blocks of them."""

from bellrowsdesk.rows import is_bell_count

CROSS = 0
MOST_CHANGES = 40


def is_made(m, place):
    return (m >> place) % 2 == 1


def is_change(n, m):
    """Whether n is 3 to 16 and m is a change of n bells."""
    if not is_bell_count(n) or m >> n != 0:
        return False
    others = 0
    for place in range(n):
        if not is_made(m, place):
            others += 1
        elif others % 2 == 1:
            return False
    # Every run before a made place was even, so the sum is odd only if the last run is.
    return others % 2 == 0


def after_change(n, m, row):
    """The row to which the change m of n bells leads."""
    changed = list(row)
    place = 0
    while place < n:
        if is_made(m, place):
            place += 1
        else:
            changed[place] = row[place + 1]
            changed[place + 1] = row[place]
            place += 2
    return changed


def is_block(n, changes):
    """Whether the list is a block of n bells."""
    return 1 <= len(changes) <= MOST_CHANGES and all([is_change(n, m) for m in changes])
