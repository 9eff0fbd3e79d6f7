"""The book: blocks on n bells, what is barred and wanted, and the search."""

from bellrowsdesk.blocks import rows_led
from bellrowsdesk.rows import rounds
from bellrowsdesk.touches import LONGEST_TOUCH
from bellrowsdesk.touchsearch import Search


class TouchBook:
    """A book on n bells. Each block is kept as its rows from rounds, each bar as its depth and block."""

    def __init__(self, n):
        self.n = n
        self.blocks = []
        self.bars = []
        self.low = 1
        self.high = LONGEST_TOUCH
        self.search = None

    def add_block(self, changes):
        self.blocks.append(rows_led(self.n, changes, rounds()))
        self.search = None

    def want_lengths(self, low, high):
        self.low = low
        self.high = high
        self.search = None

    def add_bar(self, depth, block):
        self.bars.append((depth, block))
        self.search = None

    def begin_search(self):
        self.search = Search(self.blocks, self.bars, self.low, self.high)
