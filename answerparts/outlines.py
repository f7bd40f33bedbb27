"""Outlines: the blocks of the text of a program, line by line, by the blanks ahead of each line."""

from answerparts.lines import INDENT, lists_in, statement_in, statement_line
from answerparts.programs import BLOCKS_AT, blocks_of


def block_lines(block, indent):
    """Return the lines of a block, with these blanks ahead of each."""
    if not block:
        return [indent + "pass"]
    lines = []
    for statement in block:
        lines.append(indent + statement_line(statement))
        for number, inner in enumerate(blocks_of(statement)):
            if number > 0:
                lines.append(indent + "else:")
            lines.extend(block_lines(inner, indent + INDENT))
    return lines


def has_all_blocks(statement):
    """Tell whether a statement has all of its blocks."""
    return len(statement) > BLOCKS_AT[statement[0]][-1]


class Part:
    """A block that more lines may follow, and the statement around it with the blocks ahead of this one."""

    def __init__(self, around):
        self.around = around
        self.statements = []
        self.is_pass = False

    def has_lines(self):
        """Tell whether the block has lines: each one needs some."""
        return self.is_pass or len(self.statements) > 0

    def whole(self):
        """Return the statement around the block, with this one too."""
        return self.around + (tuple(self.statements),)


class Outline:
    """What the lines of a text, taken one by one, are the beginning of."""

    def __init__(self):
        self._head = None
        # The program's block, and each block that is the last thing in the one ahead of it.
        self._parts = [Part(())]

    def take(self, line):
        """Take one more line; return False if no text of a program begins so."""
        if self._head is None:
            self._head = lists_in(line)
            return self._head is not None
        body = line.lstrip(" ")
        depth, odd = divmod(len(line) - len(body), len(INDENT))
        if odd > 0:
            return False
        if body == "else:":
            return self._close_to(depth + 2) and self._begin_else()
        return self._close_to(depth + 1) and self._add(body)

    def made(self):
        """Return the lists, the block and the kept lists of the program, None if lines are missing."""
        if not self._close_to(1) or not self._parts[0].has_lines():
            return None
        return self._head[0], tuple(self._parts[0].statements), self._head[1]

    def _close_to(self, many):
        """End blocks until there are so many; return False if lines are missing for that, or there are fewer."""
        while len(self._parts) > many:
            part = self._parts.pop()
            if not part.has_lines() or not has_all_blocks(part.whole()):
                return False
            self._parts[-1].statements.append(part.whole())
        return len(self._parts) == many

    def _begin_else(self):
        part = self._parts.pop()
        self._parts.append(Part(part.whole()))
        return part.has_lines() and not has_all_blocks(part.whole())

    def _add(self, body):
        part = self._parts[-1]
        if part.is_pass:
            return False
        if body == "pass":
            part.is_pass = len(part.statements) == 0
            return part.is_pass
        statement = statement_in(body)
        if statement is None:
            return False
        if BLOCKS_AT[statement[0]]:
            self._parts.append(Part(statement))
        else:
            part.statements.append(statement)
        return True
