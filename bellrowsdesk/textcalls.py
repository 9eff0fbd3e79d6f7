"""The answers to the calls on texts, row to write."""

from bellrowsdesk.changes import MOST_CHANGES, is_block
from bellrowsdesk.names import bell_named, name_of
from bellrowsdesk.notation import (
    NO_FAULT, can_be_halved, first_fault, first_wrong, text_changes, written, written_half,
)
from bellrowsdesk.replies import refused, refused_with, told_bytes, told_list
from bellrowsdesk.rows import is_bell_count, is_row, places_behind

MOST_SIGNS = 512
NO_TEXT = 1
WRONG_CHANGE = 2


def answer_row(signs):
    bells = [bell_named(sign) for sign in signs]
    row = bells + places_behind(len(bells))
    if not is_row(len(bells), row):
        return refused(-1)
    return told_list(0, row)


def answer_text(n, row):
    if not is_row(n, row):
        return refused(-1)
    return told_bytes([name_of(bell) for bell in row[:n]])


def answer_read(n, signs):
    if not is_bell_count(n):
        return refused(-1)
    if len(signs) > MOST_SIGNS:
        return refused(-2)
    fault = first_fault(signs)
    if fault != NO_FAULT:
        return refused_with(-6, [NO_TEXT, fault])
    wrong = first_wrong(n, signs)
    if wrong != NO_FAULT:
        return refused_with(-6, [WRONG_CHANGE, wrong])
    changes = text_changes(n, signs)
    if len(changes) > MOST_CHANGES:
        return refused(-3)
    return told_list(len(changes), changes)


def answer_write(n, half, changes):
    if not is_block(n, changes) or half > 1:
        return refused(-1)
    if half == 0:
        return told_bytes(written(changes))
    if not can_be_halved(changes):
        return refused(-5)
    return told_bytes(written_half(changes))
