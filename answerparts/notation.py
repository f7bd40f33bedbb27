"""Texts of programs and of histories."""

from answerparts.errors import InvalidText
from answerparts.events import LATE_WORDS
from answerparts.lines import lists_line, number_in
from answerparts.outlines import Outline, block_lines
from answerparts.programs import Program


def format_program(program):
    """Return the text of a program."""
    lines = [lists_line(program)] + block_lines(program.block, "")
    return "".join([line + "\n" for line in lines])


def parse_program(text):
    """Return the program that has a text."""
    lines = text.split("\n")
    # A line feed is behind each line, so nothing is behind the last one.
    rest = lines.pop()
    outline = Outline()
    for number, line in enumerate(lines, start=1):
        if not outline.take(line):
            raise InvalidText(number)
    made = outline.made()
    if rest != "" or made is None:
        raise InvalidText(len(lines) + 1)
    lists, block, kept = made
    return Program(lists, block, kept)


def event_text(event):
    """Return the text of an event."""
    numbers = event[1] if isinstance(event[1], tuple) else event[1:]
    return " ".join([event[0]] + [str(number) for number in numbers])


def event_in(text):
    """Return the event that has a text, None if none has it."""
    words = text.split(" ")
    word = words[0]
    if word == "late":
        item = number_in(words[1]) if len(words) == 3 else None
        return None if item is None or words[2] not in LATE_WORDS else (word, item, words[2])
    numbers = tuple([number_in(part) for part in words[1:]])
    if None in numbers:
        return None
    if word == "break":
        return (word, numbers[0]) if len(numbers) == 1 else None
    if word not in ("answer", "lost", "part"):
        return None
    is_ascending = all([numbers[at] < numbers[at + 1] for at in range(len(numbers) - 1)])
    return (word, numbers) if is_ascending else None


def format_history(history):
    """Return the text of a history."""
    return "; ".join([event_text(event) for event in history])


def parse_history(text):
    """Return the history that has a text."""
    if text == "":
        return ()
    events = []
    for number, part in enumerate(text.split("; "), start=1):
        event = event_in(part)
        if event is None:
            raise InvalidText(number)
        events.append(event)
    return tuple(events)
