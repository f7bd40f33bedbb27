"""Mends: "send" statements that become "keyed", and lists that are kept, too, for wished results."""

from answerparts.errors import InvalidLists, NoStatement
from answerparts.histories import stages_to
from answerparts.programs import Program, found_at
from answerparts.reaching import shortest
from answerparts.searches import Search
from answerparts.spaces import Space


def is_send(program, path):
    """Tell whether a path is that of a "send"."""
    statement = found_at(program.block, path)
    return statement is not None and statement[0] == "send"


def mended(program, paths, lists):
    """Return the program in which the "send" statements at these paths are "keyed", and these lists are kept, too."""
    for path in paths:
        if not is_send(program, path):
            raise NoStatement(path)
    if not all([name in program.lists and lists.count(name) == 1 for name in lists]):
        raise InvalidLists("a list to keep is none of the program's, or stands there twice")
    changed = program
    for path in paths:
        # A "send" around another one has that one's mend in its block.
        changed = changed.with_statement(path, ("keyed",) + changed[path][1:])
    kept = program.kept + tuple([name for name in lists if name not in program.kept])
    return Program(program.lists, changed.block, kept)


def parts_of(rows, many):
    """Return the lists of so many of the rows, in their order."""
    if many == 0:
        return [[]]
    found = []
    for at in range(len(rows) - many + 1):
        found.extend([[rows[at]] + rest for rest in parts_of(rows[at + 1:], many - 1)])
    return found


def refutation(program, world, wanted):
    """Return what a run to another result than the wanted ones depends on, None if there is no such run.

    This is a dict with the word of each statement by which it asked, and the lists that were kept, None if it did not
    break off.
    """
    space = Space(program, world)
    result = Search(space).other_than(wanted)
    if result is None:
        return None
    asked = {}
    kept = None
    for stage in stages_to(shortest(space, result)[2])[1:]:
        if stage.step is None:
            kept = program.kept
        elif stage.step[1] is not None:
            move = stage.step[0]
            asked[move.path] = move.statement[0]
    return asked, kept


def is_refuted(program, refutations):
    """Tell whether one of the runs of other programs is one of this program, too."""
    for asked, kept in refutations:
        if kept is None or kept == program.kept:
            if all([program[path][0] == word for path, word in asked.items()]):
                return True
    return False


def fewest(program, world, wanted):
    """Return the fewest paths and lists by which a program has only wanted results, None if there are none."""
    # That the first list is kept changes nothing.
    lists = [name for name in program.lists[1:] if name not in program.kept]
    changes = list(program.paths("send")) + lists
    refutations = []
    for many in range(len(changes) + 1):
        for part in parts_of(changes, many):
            at = [change for change in part if isinstance(change, tuple)]
            names = [change for change in part if isinstance(change, str)]
            changed = mended(program, at, names)
            if not is_refuted(changed, refutations):
                found = refutation(changed, world, wanted)
                if found is None:
                    return at, names
                refutations.append(found)
    return None
