"""The bells' names, as bytes."""

NAMES = "1234567890ETABCD"
NO_BELL = -1


def name_of(bell):
    return ord(NAMES[bell])


def bell_named(sign):
    """The bell with that name, or NO_BELL."""
    for bell, name in enumerate(NAMES):
        if ord(name) == sign:
            return bell
    return NO_BELL
