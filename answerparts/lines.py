"""Lines of the text of a program, one by one: that of the lists, and the first one of a statement."""

from answerparts.programs import BLOCKS_AT, is_name

DIGITS = "0123456789"
MOST_DIGITS = 9
INDENT = "  "

# What follows the word of a statement in its line, by its word: fixed words, and "" for what the statement has there.
PARTS = {
    "send": ("", "to", "", "or", ""),
    "keyed": ("", "to", "", "or", ""),
    "look": ("", "to", "", "or", ""),
    "move": ("", "to", ""),
    "part": ("", "to", ""),
    "tell": ("", ""),
    "if": ("",),
    "while": ("",),
    "times": ("",),
    "end": (),
}


def number_in(text):
    """Return the number that a text is, 1 to 9 digits without needless zeros, None if it is none."""
    if not 1 <= len(text) <= MOST_DIGITS or not all([sign in DIGITS for sign in text]):
        return None
    return None if text[0] == "0" and len(text) > 1 else int(text)


def names_in(words):
    """Return the names that words are, each but the last one with a comma behind it, None if they are none."""
    if not words or not all([word.endswith(",") for word in words[:-1]]):
        return None
    names = tuple([word[:-1] for word in words[:-1]] + words[-1:])
    return names if all([is_name(name) for name in names]) else None


def lists_line(program):
    """Return the line of the lists of a program."""
    kept = " kept " + ", ".join(program.kept) if program.kept else ""
    return "lists " + ", ".join(program.lists) + kept


def lists_in(line):
    """Return the lists and the kept lists of a line, None if it is none of lists."""
    words = line.split(" ")
    if words[0] != "lists":
        return None
    # The names end with the first one that has no comma behind it: a list can have the name "kept".
    many = 1
    while many < len(words) and words[many].endswith(","):
        many += 1
    lists, others = names_in(words[1:many + 1]), words[many + 1:]
    if not others:
        return None if lists is None else (lists, ())
    kept = names_in(others[1:])
    return None if lists is None or kept is None or others[0] != "kept" else (lists, kept)


def statement_line(statement):
    """Return the first line of a statement, without blanks ahead of it."""
    word = statement[0]
    words = [word]
    at = 1
    for part in PARTS[word]:
        if part == "":
            words.append(str(statement[at]))
            at += 1
        else:
            words.append(part)
    return " ".join(words) + (":" if BLOCKS_AT[word] else "")


def statement_in(line):
    """Return the statement, without its blocks, that a line is the first one of, None if it is none."""
    has_block = line.endswith(":")
    words = (line[:-1] if has_block else line).split(" ")
    word = words[0]
    if word not in PARTS or has_block != (len(BLOCKS_AT[word]) > 0) or len(words) != len(PARTS[word]) + 1:
        return None
    pairs = list(zip(PARTS[word], words[1:]))
    if not all([part in ("", text) for part, text in pairs]):
        return None
    texts = [text for part, text in pairs if part == ""]
    if word == "times":
        number = number_in(texts[0])
        return None if number is None else (word, number)
    return (word, *texts) if all([is_name(text) for text in texts]) else None
