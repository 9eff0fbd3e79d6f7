"""The desk: answers to a list of calls."""

from bellrowsdesk.blockcalls import answer_course, answer_ends, answer_falses, answer_hunts, answer_stay
from bellrowsdesk.callreader import CallReader
from bellrowsdesk.replies import refused, told_number
from bellrowsdesk.rowcalls import (
    answer_back, answer_change, answer_like, answer_odd, answer_order, answer_power, answer_rank,
    answer_right, answer_times, answer_unrank,
)
from bellrowsdesk.rows import is_bell_count
from bellrowsdesk.textcalls import answer_read, answer_row, answer_text, answer_write
from bellrowsdesk.touchbook import TouchBook
from bellrowsdesk.touchcalls import (
    answer_bar, answer_begin, answer_block, answer_lengths, answer_music, answer_prove, answer_search,
    answer_touch,
)

NO_BOOK = -8


def answer_row_call(call):
    """The answer to a call on rows, or None if it is another call."""
    if call.name == "right":
        return answer_right(call.numbers[0], call.lists[0])
    if call.name == "change":
        return answer_change(call.numbers[0], call.numbers[1], call.lists[0])
    if call.name == "times":
        return answer_times(call.lists[0], call.lists[1])
    if call.name == "back":
        return answer_back(call.lists[0])
    if call.name == "power":
        return answer_power(call.numbers[0], call.lists[0])
    if call.name == "order":
        return answer_order(call.lists[0])
    if call.name == "odd":
        return answer_odd(call.lists[0])
    if call.name == "rank":
        return answer_rank(call.numbers[0], call.lists[0])
    if call.name == "unrank":
        return answer_unrank(call.numbers[0], call.numbers[1])
    if call.name == "like":
        return answer_like(call.lists[0], call.lists[1])
    return None


def answer_text_call(call):
    """The answer to a call on texts, or None if it is another call."""
    if call.name == "row":
        return answer_row(call.lists[0])
    if call.name == "text":
        return answer_text(call.numbers[0], call.lists[0])
    if call.name == "read":
        return answer_read(call.numbers[0], call.lists[0])
    if call.name == "write":
        return answer_write(call.numbers[0], call.numbers[1], call.lists[0])
    return None


def answer_block_call(call):
    """The answer to a call on blocks, or None if it is another call."""
    if call.name == "ends":
        return answer_ends(call.numbers[0], call.lists[0], call.lists[1])
    if call.name == "hunts":
        return answer_hunts(call.numbers[0], call.lists[0])
    if call.name == "course":
        return answer_course(call.numbers[0], call.lists[0])
    if call.name == "stay":
        return answer_stay(call.numbers[0], call.lists[0])
    if call.name == "falses":
        return answer_falses(call.numbers[0], call.numbers[1], call.lists[0])
    return None


def answer_touch_call(book, call):
    """The answer to a call on an open book."""
    if call.name == "block":
        return answer_block(book, call.lists[0])
    if call.name == "lengths":
        return answer_lengths(book, call.numbers[0], call.numbers[1])
    if call.name == "bar":
        return answer_bar(book, call.numbers[0], call.numbers[1])
    if call.name == "begin":
        return answer_begin(book)
    if call.name == "search":
        return answer_search(book, call.numbers[0])
    if call.name == "touch":
        return answer_touch(book)
    if call.name == "prove":
        return answer_prove(book, call.lists[0])
    return answer_music(book, call.lists[0], call.lists[1])


class Desk:
    """What one list of calls works on: its book, or None till one is opened."""

    def __init__(self):
        self.book = None

    def open_book(self, n):
        if not is_bell_count(n):
            return refused(-1)
        self.book = TouchBook(n)
        return told_number(0)

    def answer_book_call(self, call):
        """The answer to open, or to a call that needs an open book."""
        if call.name == "open book":
            return self.open_book(call.numbers[0])
        if self.book is None:
            return refused(NO_BOOK)
        return answer_touch_call(self.book, call)

    def answer_to(self, call):
        """The answer to one call: each group of calls is asked in turn."""
        answer = answer_row_call(call)
        if answer is None:
            answer = answer_text_call(call)
        if answer is None:
            answer = answer_block_call(call)
        if answer is None:
            answer = self.answer_book_call(call)
        return answer


def answers(calls):
    """For each call, in order: how many numbers are answered, and they."""
    given = []
    desk = Desk()
    reader = CallReader(calls)
    while not reader.is_at_end():
        answer = desk.answer_to(reader.take_call())
        given.append(len(answer))
        given.extend(answer)
    return given
