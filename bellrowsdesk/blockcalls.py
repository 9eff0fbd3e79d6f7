"""The answers to the calls on blocks, ends to falses."""

from bellrowsdesk.blocks import course_length, false_rows, head_of, hunting_bells, longest_stay, rows_led
from bellrowsdesk.changes import is_block
from bellrowsdesk.replies import refused, told_list, told_number
from bellrowsdesk.rows import is_row

MOST_FALSE_TOLD = 20


def answer_ends(n, changes, row):
    if not is_block(n, changes) or not is_row(n, row):
        return refused(-1)
    return told_list(0, rows_led(n, changes, row)[-1])


def answer_hunts(n, changes):
    if not is_block(n, changes):
        return refused(-1)
    return told_number(hunting_bells(n, head_of(n, changes)))


def answer_course(n, changes):
    if not is_block(n, changes):
        return refused(-1)
    return told_number(course_length(n, changes))


def answer_stay(n, changes):
    if not is_block(n, changes):
        return refused(-1)
    return told_number(longest_stay(n, changes))


def answer_falses(n, start, changes):
    if not is_block(n, changes):
        return refused(-1)
    rows = false_rows(n, changes)
    told = []
    for row in rows[start:start + MOST_FALSE_TOLD]:
        told.extend(row)
    return told_list(len(rows), told)
