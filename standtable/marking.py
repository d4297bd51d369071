"""The calls on marks. Each answers how many marks stand now; below 0 it's a refusal, and nothing is changed."""

from standtable.refusals import NOT_THERE
from standtable.refusals import NO_ROOM
from standtable.table import Mark
from standtable.table import ROOM_FOR_MARKS


def set_mark(table):
    """Set a mark that keeps the rows and the next number as they are."""
    if len(table.marks) >= ROOM_FOR_MARKS:
        return NO_ROOM
    if len(table.marks) == 0:
        # Only changes since the first mark count, and this is the first.
        table.changes = 0
    table.marks.append(Mark(table.rows, table.next_number, table.changes))
    return len(table.marks)


def go_back(table):
    """Give back the rows and the next number that the last mark kept."""
    if len(table.marks) == 0:
        return NOT_THERE
    mark = table.marks.pop()
    table.restore(mark.rows, mark.next_number)
    table.changes = mark.changes
    return len(table.marks)


def keep_rows(table):
    """Let the last mark go. What was changed since it still counts as changed since the first."""
    if len(table.marks) == 0:
        return NOT_THERE
    table.marks.pop()
    return len(table.marks)
