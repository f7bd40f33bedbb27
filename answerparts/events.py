"""Events: what a history can have, as far as it can be told without the run that takes them.

Any value can stand for an event, so nothing is asked of a value before its kind is known.
"""

LATE_WORDS = ("send", "keyed")


def word_of(event):
    """Return the word that a tuple begins with, None if the event is nothing of this form."""
    if isinstance(event, tuple) and len(event) > 0 and type(event[0]) is str:
        return event[0]
    return None


def items_of(event):
    """Return the items of an event that has a word and ascending integers, None for another event."""
    if len(event) != 2 or not isinstance(event[1], tuple):
        return None
    items = event[1]
    if not all([type(item) is int for item in items]):
        return None
    if not all([items[at] < items[at + 1] for at in range(len(items) - 1)]):
        return None
    return items


def steps_of(event):
    """Return the number of steps of a "break", None for one that has none."""
    if len(event) != 2 or type(event[1]) is not int:
        return None
    return event[1]


def late_of(event, items):
    """Return the item and the word of a "late" that can be one of so many items, None for another one."""
    if len(event) != 3 or type(event[1]) is not int or type(event[2]) is not str:
        return None
    if not 0 <= event[1] < items or event[2] not in LATE_WORDS:
        return None
    return event[1], event[2]
