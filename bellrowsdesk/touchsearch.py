"""The search for true touches, step by step."""

from bellrowsdesk.rows import rounds
from bellrowsdesk.touches import first_alike, rows_behind

OVER = 0
FOUND = 1
PAUSED = 2


class Search:
    """Stands at a list of calls with a block that comes next. The book's blocks, bars and lengths are only read."""

    def __init__(self, blocks, bars, low, high):
        self.blocks = blocks
        self.bars = bars
        self.low = low
        self.high = high
        self.list_calls = []
        self.list_rows = [rounds()]
        self.coming = 0
        self.found = None

    def go_on(self, tries):
        """Goes on till a touch is found, so many tries are made, or all is over."""
        self.found = None
        made = 0
        while True:
            if self.coming == len(self.blocks):
                if len(self.list_calls) == 0:
                    return OVER
                self.drop_last()
            elif made == tries:
                return PAUSED
            elif (len(self.list_calls), self.coming) in self.bars:
                self.coming += 1
            else:
                made += 1
                self.try_coming()
                if self.found is not None:
                    return FOUND

    def drop_last(self):
        """Drops the last call; the block behind that call's comes next."""
        last = self.list_calls.pop()
        left = len(self.list_rows) - len(self.blocks[last])
        self.list_rows = self.list_rows[:left]
        self.coming = last + 1

    def try_coming(self):
        """Looks at the list with the block that comes next: it is passed by, found, or stands."""
        calls = self.list_calls + [self.coming]
        rows = self.list_rows + rows_behind(self.list_rows[-1], self.blocks[self.coming])
        changes = len(rows) - 1
        self.coming += 1
        if changes > self.high or first_alike(rows) is not None:
            return
        if rows[-1] != rounds():
            self.list_calls = calls
            self.list_rows = rows
            self.coming = 0
        elif changes >= self.low:
            self.found = calls
