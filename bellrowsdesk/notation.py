"""Notation: which bytes are a text, what it says, and how changes are written."""

from bellrowsdesk.changes import CROSS, is_change, is_made
from bellrowsdesk.names import NO_BELL, bell_named, name_of

NO_FAULT = -1
WRONG = -1


def sign_kind(sign):
    """What a byte is in a text: mark, cross, name, dot, comma, or other if it stands in none."""
    if bell_named(sign) != NO_BELL:
        return "name"
    if sign == ord("x") or sign == ord("X") or sign == ord("-"):
        return "cross"
    if sign == ord("."):
        return "dot"
    if sign == ord(","):
        return "comma"
    if sign == ord("&") or sign == ord("+"):
        return "mark"
    return "other"


def is_of_change(kind):
    return kind == "name" or kind == "cross"


def may_follow(before, kind, commas):
    """Whether a text can go on with this kind of sign behind that one and so many commas."""
    if kind == "mark":
        return before == "start" or before == "comma"
    if kind == "dot":
        return is_of_change(before)
    if kind == "comma":
        return is_of_change(before) and commas == 0
    return is_of_change(kind)


def first_fault(signs):
    """The place of the first byte with which no text goes on, how many there are if they end too soon, or NO_FAULT."""
    before = "start"
    commas = 0
    for place, sign in enumerate(signs):
        kind = sign_kind(sign)
        if not may_follow(before, kind, commas):
            return place
        if kind == "comma":
            commas += 1
        before = kind
    return NO_FAULT if is_of_change(before) else len(signs)


def change_spans(signs):
    """For each change of a text, in order: where it begins and where it ends."""
    spans = []
    place = 0
    while place < len(signs):
        kind = sign_kind(signs[place])
        end = place + 1
        while kind == "name" and end < len(signs) and sign_kind(signs[end]) == "name":
            end += 1
        if is_of_change(kind):
            spans.append((place, end))
        place = end
    return spans


def made_by_names(n, places):
    """The number for the places told, with the first and the last place of n where they are to be made too."""
    made = 0
    for place in places:
        made = made | (1 << place)
    if places[0] % 2 == 1:
        made = made | 1
    if (n - 1 - places[-1]) % 2 == 1:
        made = made | (1 << (n - 1))
    return made


def change_said(n, signs):
    """The change that a cross or places' names say for n bells, or WRONG."""
    if sign_kind(signs[0]) == "cross":
        return CROSS if is_change(n, CROSS) else WRONG
    places = [bell_named(sign) for sign in signs]
    if places != sorted(set(places)) or places[-1] >= n:
        return WRONG
    made = made_by_names(n, places)
    return made if is_change(n, made) else WRONG


def first_wrong(n, signs):
    """Where the first change of a text begins that is wrong for n bells, or NO_FAULT."""
    for span in change_spans(signs):
        if change_said(n, signs[span[0]:span[1]]) == WRONG:
            return span[0]
    return NO_FAULT


def text_parts(signs):
    """A text's parts, without the comma between."""
    if ord(",") not in signs:
        return [signs]
    comma = signs.index(ord(","))
    return [signs[:comma], signs[comma + 1:]]


def goes_back(mark, parts):
    """Whether a part that begins with this byte, in a text of so many parts, is rung back too."""
    if mark == ord("&"):
        return True
    return parts == 2 and mark != ord("+")


def text_changes(n, signs):
    """All changes that a text says; none of them is wrong for n bells."""
    parts = text_parts(signs)
    changes = []
    for part in parts:
        said = [change_said(n, part[span[0]:span[1]]) for span in change_spans(part)]
        changes.extend(said)
        if goes_back(part[0], len(parts)):
            changes.extend(list(reversed(said[:-1])))
    return changes


def names_made(m):
    """The names of the places that a change makes."""
    return [name_of(place) for place in range(m.bit_length()) if is_made(m, place)]


def written(changes):
    """The changes in order, each cross as x, with a dot between two that aren't crosses."""
    signs = []
    before = CROSS
    for m in changes:
        if m != CROSS and before != CROSS:
            signs.append(ord("."))
        if m == CROSS:
            signs.append(ord("x"))
        else:
            signs.extend(names_made(m))
        before = m
    return signs


def can_be_halved(changes):
    """Whether their number is even and those but the last are the same from behind."""
    return len(changes) % 2 == 0 and changes[:-1] == list(reversed(changes[:-1]))


def written_half(changes):
    """The first half, to be rung back too, and the last change."""
    half = changes[:len(changes) // 2]
    return [ord("&")] + written(half) + [ord(",")] + written(changes[-1:])
