"""Papers, which show that a result cannot be: rows that have all that follows from them, and no end with the result."""

from answerparts.errors import IsPossible
from answerparts.reaching import results
from answerparts.rows import is_row
from answerparts.rules import Rules


def paper(program, world, result):
    """Return, ascending, all rows that follow from those with which a run begins, and these."""
    if result in results(program, world):
        raise IsPossible("the result is possible")
    rules = Rules(program, world)
    todo = rules.first_rows()
    seen = {row: True for row in todo}
    while todo:
        row = todo.pop()
        for after in rules.behind(row):
            if after not in seen:
                seen[after] = True
                todo.append(after)
    return tuple([rules.written(row) for row in sorted(list(seen), key=rules.order_of)])


def holds(program, world, result, rows):
    """Tell whether rows have those with which a run begins, all that follow from them, and no end with the result."""
    if type(rows) is not tuple or not all([is_row(program, world, row) for row in rows]):
        return False
    rules = Rules(program, world)
    found = {rules.numbered(row): True for row in rows}
    if len(found) < len(rows) or not all([row in found for row in rules.first_rows()]):
        return False
    for row in found:
        if rules.has_result(row, result) or not all([after in found for after in rules.behind(row)]):
            return False
    return True
