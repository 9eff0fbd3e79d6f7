"""Blocks: the rows they lead through, and what they do to the bells."""

from bellrowsdesk.changes import after_change
from bellrowsdesk.rows import inverse, order_of, product, rounds


def rows_led(n, changes, row):
    """The rows to which a block leads from a row, one after each change."""
    led = []
    reached = row
    for m in changes:
        reached = after_change(n, m, reached)
        led.append(reached)
    return led


def own_rows(n, changes):
    """The block's rows from rounds: rounds and those after, but the last."""
    return [rounds()] + rows_led(n, changes, rounds())[:-1]


def head_of(n, changes):
    return rows_led(n, changes, rounds())[-1]


def hunting_bells(n, head):
    """The bells that the head has where rounds has them, as a number with a bit for each."""
    bells = 0
    for bell in range(n):
        if head[bell] == bell:
            bells = bells | (1 << bell)
    return bells


def course_length(n, changes):
    """How many changes the block has till the course is first at rounds at a block's end."""
    return order_of(head_of(n, changes)) * len(changes)


def longest_run(places):
    """The longest run of one place in places gone through again and again; 0 if it has no end."""
    if places.count(places[0]) == len(places):
        return 0
    longest = 0
    run = 0
    before = places[0]
    # Twice round, every run that goes over the end is met whole.
    for place in places + places:
        run = run + 1 if place == before else 1
        before = place
        longest = max(longest, run)
    return longest


def bell_runs(n, changes):
    """For each bell, or one of several that go the same way: its longest run at one place in the course."""
    steps = [inverse(row) for row in own_rows(n, changes)]
    places_after = inverse(head_of(n, changes))
    gone = {}
    runs = []
    for bell in range(n):
        places = []
        begin = bell
        # Who begins a block at a place goes on in it as the bell that rounds has there.
        while begin not in gone:
            gone[begin] = True
            places.extend([step[begin] for step in steps])
            begin = places_after[begin]
        if len(places) > 0:
            runs.append(longest_run(places))
    return runs


def longest_stay(n, changes):
    """The most rows one behind the other in which a bell is at one place; 0 if one is for ever."""
    runs = bell_runs(n, changes)
    return 0 if 0 in runs else max(runs)


def false_rows(n, changes):
    """The rows, in order of rank, from which the block has one of its own rows from rounds."""
    own = own_rows(n, changes)
    backs = [inverse(row) for row in own]
    false = {}
    # From r the own row s becomes the product of r and s: it is own row o just if r is o times s's inverse.
    for row in own:
        for back in backs:
            false[tuple(product(row, back))] = True
    return [list(row) for row in sorted(false)]
