"""Rows of bells, and reckoning with them. A row is a list of 16 numbers."""

FEWEST_BELLS = 3
MOST_BELLS = 16
ANY_BELL = 255


def is_bell_count(n):
    return FEWEST_BELLS <= n <= MOST_BELLS


def places_behind(n):
    """What a row of n bells has behind its first n places."""
    return list(range(n, MOST_BELLS))


def is_row(n, row):
    """Whether n is 3 to 16 and the list is a row of n bells."""
    if not is_bell_count(n) or len(row) != MOST_BELLS:
        return False
    return sorted(row[:n]) == list(range(n)) and row[n:] == places_behind(n)


def is_full_row(row):
    """Whether the list is a row of 16 bells, as a row of fewer is too."""
    return is_row(MOST_BELLS, row)


def rounds():
    return list(range(MOST_BELLS))


def product(left, right):
    return [left[place] for place in right]


def inverse(row):
    """The row whose product with the given one is rounds."""
    back = rounds()
    for place, bell in enumerate(row):
        back[bell] = place
    return back


def order_of(row):
    """The least number of factors, from 1 on, whose product is rounds."""
    factors = 1
    reached = row
    while reached != rounds():
        reached = product(reached, row)
        factors += 1
    return factors


def power_of(k, row):
    """The product of k factors; of the inverse's, for k below 0."""
    # Powers come again after the order, below 0 too, so no more than that many products are due.
    reached = rounds()
    for factor in range(k % order_of(row)):
        reached = product(reached, row)
    return reached


def pairs_turned(row):
    """How many pairs stand with the greater bell in front."""
    turned = 0
    for place, bell in enumerate(row):
        turned += len([other for other in row[place + 1:] if other < bell])
    return turned


def rank_of(n, row):
    """How many rows of n bells come before this one."""
    before = 0
    for place in range(n):
        smaller = [bell for bell in row[place + 1:n] if bell < row[place]]
        before = before * (n - place) + len(smaller)
    return before


def row_count(n):
    """How many rows of n bells there are."""
    rows = 1
    for factor in range(1, n + 1):
        rows = rows * factor
    return rows


def row_ranked(n, rank):
    """The row of n bells before which that many come; rank is below their count."""
    bells = list(range(n))
    rest = rank
    row = []
    while len(bells) > 0:
        rows_each = row_count(len(bells) - 1)
        row.append(bells.pop(rest // rows_each))
        rest = rest % rows_each
    return row + places_behind(n)


def is_like(row, pattern):
    """Whether the pattern has, place by place, the row's number or 255."""
    return all([wanted == bell or wanted == ANY_BELL for bell, wanted in zip(row, pattern)])
