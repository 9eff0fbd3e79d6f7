"""The answers to the calls on rows, right to like."""

from bellrowsdesk.changes import after_change, is_change
from bellrowsdesk.replies import refused, told_list, told_number
from bellrowsdesk.rows import (
    MOST_BELLS, inverse, is_bell_count, is_full_row, is_like, is_row, order_of, pairs_turned,
    power_of, product, rank_of, row_count, row_ranked,
)


def answer_right(n, row):
    return told_number(1 if is_row(n, row) else 0)


def answer_change(n, m, row):
    if not is_row(n, row) or not is_change(n, m):
        return refused(-1)
    return told_list(0, after_change(n, m, row))


def answer_times(left, right):
    if not is_full_row(left) or not is_full_row(right):
        return refused(-1)
    return told_list(0, product(left, right))


def answer_back(row):
    if not is_full_row(row):
        return refused(-1)
    return told_list(0, inverse(row))


def answer_power(k, row):
    if not is_full_row(row):
        return refused(-1)
    return told_list(0, power_of(k, row))


def answer_order(row):
    if not is_full_row(row):
        return refused(-1)
    return told_number(order_of(row))


def answer_odd(row):
    if not is_full_row(row):
        return refused(-1)
    return told_number(pairs_turned(row) % 2)


def answer_rank(n, row):
    if not is_row(n, row):
        return refused(-1)
    return told_number(rank_of(n, row))


def answer_unrank(n, rank):
    if not is_bell_count(n) or rank >= row_count(n):
        return refused(-1)
    return told_list(0, row_ranked(n, rank))


def answer_like(row, pattern):
    if len(row) != MOST_BELLS or len(pattern) != MOST_BELLS:
        return refused(-1)
    return told_number(1 if is_like(row, pattern) else 0)
