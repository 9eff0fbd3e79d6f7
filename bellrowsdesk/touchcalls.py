"""The answers to the calls on an open book, block to music."""

from bellrowsdesk.changes import is_block
from bellrowsdesk.replies import refused, told_list, told_number
from bellrowsdesk.rows import MOST_BELLS, is_like, rounds
from bellrowsdesk.touches import LONGEST_TOUCH, change_count, first_alike, touch_rows

MOST_BLOCKS = 8
MOST_BARS = 16
MOST_TRIES = 500
IN_ROUNDS = 0
NOT_IN_ROUNDS = 1
TWO_ALIKE = 2
NO_REFUSAL = 0


def answer_block(book, changes):
    if not is_block(book.n, changes):
        return refused(-1)
    if len(book.blocks) == MOST_BLOCKS:
        return refused(-2)
    book.add_block(changes)
    return told_number(len(book.blocks) - 1)


def answer_lengths(book, low, high):
    if low == 0 or low > high or high > LONGEST_TOUCH:
        return refused(-1)
    book.want_lengths(low, high)
    return told_number(0)


def answer_bar(book, depth, block):
    if block >= len(book.blocks) or depth >= LONGEST_TOUCH:
        return refused(-1)
    if (depth, block) in book.bars:
        return told_number(1)
    if len(book.bars) == MOST_BARS:
        return refused(-2)
    book.add_bar(depth, block)
    return told_number(0)


def answer_begin(book):
    book.begin_search()
    return told_number(0)


def answer_search(book, tries):
    if tries > MOST_TRIES:
        return refused(-2)
    if book.search is None:
        return refused(-1)
    return told_number(book.search.go_on(tries))


def answer_touch(book):
    if book.search is None or book.search.found is None:
        return refused(-1)
    return told_list(len(book.search.found), book.search.found)


def touch_refusal(book, touch):
    """The number with which prove and music refuse the touch, or NO_REFUSAL."""
    if len(touch) > LONGEST_TOUCH or any([number >= len(book.blocks) for number in touch]):
        return -1
    if change_count(book.blocks, touch) > LONGEST_TOUCH:
        return -2
    return NO_REFUSAL


def answer_prove(book, touch):
    refusal = touch_refusal(book, touch)
    if refusal != NO_REFUSAL:
        return refused(refusal)
    rows = touch_rows(book.blocks, touch)
    alike = first_alike(rows)
    if alike is not None:
        return told_list(TWO_ALIKE, alike)
    return told_number(IN_ROUNDS if rows[-1] == rounds() else NOT_IN_ROUNDS)


def answer_music(book, touch, pattern):
    refusal = touch_refusal(book, touch)
    if refusal != NO_REFUSAL:
        return refused(refusal)
    if len(pattern) != MOST_BELLS:
        return refused(-1)
    rows = touch_rows(book.blocks, touch)[1:]
    return told_number(len([row for row in rows if is_like(row, pattern)]))
