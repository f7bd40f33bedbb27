"""Programs: lists of items and the block of statements that handles them."""

from answerparts.checks import is_number
from answerparts.errors import InvalidBlock, InvalidLists, NoStatement

LETTERS = "abcdefghijklmnopqrstuvwxyz"
TOLD_WORDS = ("done", "failed")
ASK_WORDS = ("send", "keyed")
MOST_LETTERS = 8
MOST_LISTS = 4
MOST_ROUNDS = 3
MOST_AROUND = 2
MOST_STATEMENTS = 20

# Where the lists and the blocks stand in a statement, by its word.
LISTS_AT = {
    "send": (1, 2, 3),
    "keyed": (1, 2, 3),
    "look": (1, 2, 3),
    "move": (1, 2),
    "part": (1, 2),
    "tell": (1,),
    "if": (1,),
    "while": (1,),
    "times": (),
    "end": (),
}
BLOCKS_AT = {
    "send": (4,),
    "keyed": (4,),
    "look": (4,),
    "move": (),
    "part": (),
    "tell": (),
    "if": (2, 3),
    "while": (2,),
    "times": (2,),
    "end": (),
}


def is_name(value):
    """Tell whether a value is a name: 1 to 8 letters from a to z."""
    if type(value) is not str or not 1 <= len(value) <= MOST_LETTERS:
        return False
    return all([sign in LETTERS for sign in value])


def are_lists(lists, kept):
    """Tell whether a program can have these lists and keep those."""
    if not 1 <= len(lists) <= MOST_LISTS:
        return False
    if not all([is_name(name) and lists.count(name) == 1 for name in lists]):
        return False
    return all([name in lists and kept.count(name) == 1 for name in kept])


def blocks_of(statement):
    """Return the blocks of a statement, in their order."""
    return tuple([statement[at] for at in BLOCKS_AT[statement[0]]])


def walk(block, around):
    """Yield the path and the statement of each statement, in reading order."""
    for index, statement in enumerate(block):
        path = around + (index,)
        yield path, statement
        for number, inner in enumerate(blocks_of(statement)):
            within = path + (number,)
            yield from walk(inner, within)


def is_faulty(lists, path, statement):
    """Tell whether a statement is not right at its path, its blocks aside."""
    # Each statement around this one has two numbers in its path.
    if len(path) > 2 * MOST_AROUND + 1:
        return True
    word = statement[0]
    if not all([statement[at] in lists for at in LISTS_AT[word]]):
        return True
    if word == "tell":
        return statement[2] not in TOLD_WORDS
    if word == "times":
        return not is_number(statement[1], MOST_ROUNDS)
    return False


def checked_rows(lists, block):
    """Return the paths and statements of a block, in reading order, if they are right."""
    rows = []
    for path, statement in walk(block, ()):
        # A fault counts ahead of those in the blocks below it, so it is looked for at once.
        if is_faulty(lists, path, statement):
            raise InvalidBlock(path)
        rows.append((path, statement))
    if len(rows) > MOST_STATEMENTS:
        raise InvalidBlock(())
    return tuple(rows)


def found_at(block, path):
    """Return the statement of a block at a path, None if there is none."""
    if not isinstance(path, tuple) or len(path) % 2 == 0:
        return None
    # With a 0 in front, a path is pairs of the number of a block and an index in it.
    numbers = (0,) + path
    blocks = (block,)
    statement = None
    for at in range(0, len(numbers), 2):
        number, index = numbers[at], numbers[at + 1]
        if not is_number(number, len(blocks) - 1):
            return None
        if not is_number(index, len(blocks[number]) - 1):
            return None
        statement = blocks[number][index]
        blocks = blocks_of(statement)
    return statement


def with_item(row, at, value):
    """Return a tuple with another value at an index that it has."""
    return row[:at] + (value,) + row[at + 1:]


def with_statement_at(block, path, statement):
    """Return a block with another statement at a path that it has."""
    index = path[0]
    if len(path) == 1:
        return with_item(block, index, statement)
    around = block[index]
    at = BLOCKS_AT[around[0]][path[1]]
    inner = with_statement_at(around[at], path[2:], statement)
    return with_item(block, index, with_item(around, at, inner))


class Program:
    """Lists, a block of statements, and the lists that are kept when it breaks off."""

    def __init__(self, lists, block, kept=()):
        if not are_lists(lists, kept):
            raise InvalidLists("the lists, or those that are kept, are not right")
        self._rows = checked_rows(lists, block)
        self._lists = lists
        self._block = block
        self._kept = tuple([name for name in lists if name in kept])

    @property
    def lists(self):
        """The lists; all items are in the first one at first."""
        return self._lists

    @property
    def block(self):
        """The block of statements."""
        return self._block

    @property
    def kept(self):
        """The lists that are kept, in the order of the lists."""
        return self._kept

    def __len__(self):
        return len(self._rows)

    def __eq__(self, other):
        return (
            isinstance(other, Program)
            and self._lists == other._lists
            and self._block == other._block
            and self._kept == other._kept
        )

    def __getitem__(self, path):
        statement = found_at(self._block, path)
        if statement is None:
            raise NoStatement(path)
        return statement

    # Without this, Python would iterate over a program by the indexes 0, 1, 2 ..
    def __iter__(self):
        raise TypeError("a program is not iterated over, its paths() are")

    def paths(self, word=None):
        """Yield the paths of all statements, or of those with this word, in reading order."""
        for path, statement in self._rows:
            if word is None or statement[0] == word:
                yield path

    def with_statement(self, path, statement):
        """Return the program with another statement at the path."""
        if found_at(self._block, path) is None:
            raise NoStatement(path)
        block = with_statement_at(self._block, path, statement)
        return Program(self._lists, block, self._kept)
