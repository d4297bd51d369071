"""The call walk, and the deeds that go with the rows that it tells."""

from standtable.changes import put_row
from standtable.changes import set_row
from standtable.changes import take_row
from standtable.marking import go_back
from standtable.order import FIRST_NUMBER
from standtable.refusals import NO_ORDER
from standtable.refusals import WRONG_FORM
from standtable.rules import FIELDS
from standtable.rules import is_row

MOST_TOLD = 1000
DEED_LENGTH = 3
NOTHING = 0
TAKE = 1
SET = 2
PUT = 3
BACK = 4
END = 5


def are_deeds(numbers):
    """Tell if these numbers are deeds: of each what it is, a field, and a value."""
    if len(numbers) % DEED_LENGTH != 0:
        return False
    starts = list(range(0, len(numbers), DEED_LENGTH))
    return all([numbers[start] <= END and numbers[start + 1] < FIELDS for start in starts])


def deed_of(deeds, position):
    """The deed that goes with the row told at this position: three numbers."""
    start = position * DEED_LENGTH
    if start >= len(deeds):
        return [NOTHING, 0, 0]
    return deeds[start:start + DEED_LENGTH]


def do_deed(table, number, deed):
    """Do a deed with a row that's told. What's refused isn't done, and the refusal isn't told."""
    what = deed[0]
    changed = list(table.rows[number])
    changed[deed[1]] = deed[2]
    if what == TAKE:
        take_row(table, number)
    if what == SET:
        set_row(table, number, changed)
    if what == PUT:
        put_row(table, changed)
    if what == BACK:
        go_back(table)


def walk_rows(table, k, most, first, end, deeds):
    """Answer a list: how many rows were told, and their numbers; or the refusal alone."""
    if most > MOST_TOLD or not is_row(first) or not is_row(end) or not are_deeds(deeds):
        return [WRONG_FORM]
    if not table.has_order(k):
        return [NO_ORDER]
    order = table.orders[k]
    place = order.place_of(FIRST_NUMBER, first)
    # No row has this place: a row's place is before it just if the row is before end by the order.
    end_place = order.place_of(FIRST_NUMBER, end)
    told = []
    while len(told) < most:
        place = order.place_behind(place)
        if place > end_place:
            break
        deed = deed_of(deeds, len(told))
        told.append(place[1])
        if deed[0] == END:
            break
        do_deed(table, place[1], deed)
    return [len(told)] + told
