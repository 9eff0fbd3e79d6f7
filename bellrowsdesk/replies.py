"""The form of one answer: the number; how many bytes, and they; how many numbers, and they."""


def told_number(number):
    """An answer of a number alone."""
    return [number, 0, 0]


def told_bytes(signs):
    """An answer of bytes: its number is how many they are."""
    return [len(signs), len(signs)] + signs + [0]


def told_list(number, numbers):
    """An answer of a number and a list of numbers."""
    return [number, 0, len(numbers)] + numbers


def refused(number):
    """A refusal with nothing told with it."""
    return told_number(number)


def refused_with(number, numbers):
    """A refusal with numbers told with it."""
    return told_list(number, numbers)
