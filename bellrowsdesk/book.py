"""The book: answers to a list of calls."""

from bellrowsdesk.callreader import CallReader
from bellrowsdesk.rowcalls import (
    answer_back, answer_change, answer_like, answer_odd, answer_order, answer_power, answer_rank,
    answer_right, answer_times, answer_unrank,
)
from bellrowsdesk.textcalls import answer_read, answer_row, answer_text, answer_write


def answer_row_call(call):
    """The answer to a call on rows, or None if it is another call."""
    if call.name == "right":
        return answer_right(call.numbers[0], call.lists[0])
    if call.name == "change":
        return answer_change(call.numbers[0], call.numbers[1], call.lists[0])
    if call.name == "times":
        return answer_times(call.lists[0], call.lists[1])
    if call.name == "back":
        return answer_back(call.lists[0])
    if call.name == "power":
        return answer_power(call.numbers[0], call.lists[0])
    if call.name == "order":
        return answer_order(call.lists[0])
    if call.name == "odd":
        return answer_odd(call.lists[0])
    if call.name == "rank":
        return answer_rank(call.numbers[0], call.lists[0])
    if call.name == "unrank":
        return answer_unrank(call.numbers[0], call.numbers[1])
    if call.name == "like":
        return answer_like(call.lists[0], call.lists[1])
    return None


def answer_text_call(call):
    """The answer to a call on texts, or None if it is another call."""
    if call.name == "row":
        return answer_row(call.lists[0])
    if call.name == "text":
        return answer_text(call.numbers[0], call.lists[0])
    if call.name == "read":
        return answer_read(call.numbers[0], call.lists[0])
    if call.name == "write":
        return answer_write(call.numbers[0], call.numbers[1], call.lists[0])
    return None


def answer_to(call):
    """The answer to one call: each group of calls is asked in turn."""
    answer = answer_row_call(call)
    if answer is None:
        answer = answer_text_call(call)
    return answer


def answers(calls):
    """For each call, in order: how many numbers are answered, and they."""
    given = []
    reader = CallReader(calls)
    while not reader.is_at_end():
        answer = answer_to(reader.take_call())
        given.append(len(answer))
        given.extend(answer)
    return given
