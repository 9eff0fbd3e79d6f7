"""Goes through a list of calls: which call stands where, with its numbers and its lists."""

# For each call, at the place of its number: its name, how many whole numbers it has, how many lists.
# The call that opens a book is told by two words, since its own is none of those that are used here.
SHAPES = (
    ("right", 1, 1),
    ("change", 2, 1),
    ("times", 0, 2),
    ("back", 0, 1),
    ("power", 1, 1),
    ("order", 0, 1),
    ("odd", 0, 1),
    ("rank", 1, 1),
    ("unrank", 2, 0),
    ("like", 0, 2),
    ("row", 0, 1),
    ("text", 1, 1),
    ("read", 1, 1),
    ("write", 2, 1),
    ("ends", 1, 2),
    ("hunts", 1, 1),
    ("course", 1, 1),
    ("stay", 1, 1),
    ("falses", 2, 1),
    ("open book", 1, 0),
    ("block", 0, 1),
    ("lengths", 2, 0),
    ("bar", 2, 0),
    ("begin", 0, 0),
    ("search", 1, 0),
    ("touch", 0, 0),
    ("prove", 0, 1),
    ("music", 0, 2),
)


class Call:
    """One call: its name, its whole numbers, its lists, each in the order of the interface."""

    def __init__(self, name, numbers, lists):
        self.name = name
        self.numbers = numbers
        self.lists = lists


class CallReader:
    """Takes the calls from a list one behind another; the list itself is only read."""

    def __init__(self, calls):
        self.calls = calls
        self.place = 0

    def is_at_end(self):
        return self.place >= len(self.calls)

    def take_number(self):
        number = self.calls[self.place]
        self.place += 1
        return number

    def take_list(self):
        size = self.take_number()
        begin = self.place
        self.place += size
        return self.calls[begin:begin + size]

    def take_call(self):
        shape = SHAPES[self.take_number()]
        numbers = []
        while len(numbers) < shape[1]:
            numbers.append(self.take_number())
        lists = []
        while len(lists) < shape[2]:
            lists.append(self.take_list())
        return Call(shape[0], numbers, lists)
