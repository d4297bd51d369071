"""The interface: the calls on one table, written in one list of whole numbers, and their answers.

Each call here reads its arguments from the reader in the order in which they are written, and
answers a list of numbers.
"""

from standtable.asks import counts
from standtable.asks import fields_of_row
from standtable.asks import find_row
from standtable.asks import has_row
from standtable.asks import how_many_between
from standtable.asks import nth_row
from standtable.asks import rank_of_row
from standtable.asks import sum_between
from standtable.changes import add_order
from standtable.changes import begin_anew
from standtable.changes import put_row
from standtable.changes import set_row
from standtable.changes import take_row
from standtable.cursors import add_cursor
from standtable.cursors import drop_cursor
from standtable.cursors import go_to_row
from standtable.cursors import row_at_cursor
from standtable.cursors import seek_key
from standtable.cursors import step_back
from standtable.cursors import step_on
from standtable.marking import go_back
from standtable.marking import keep_rows
from standtable.marking import set_mark
from standtable.packing import compare_rows
from standtable.packing import is_sound
from standtable.packing import pack_row
from standtable.packing import unpack_row
from standtable.reader import Reader
from standtable.saving import load_table
from standtable.saving import save_table
from standtable.table import Table
from standtable.walking import walk_rows


def call_new(table, reader):
    return [begin_anew(table)]


def call_order(table, reader):
    unique = reader.read_number()
    return [add_order(table, unique, reader.read_list())]


def call_put(table, reader):
    return [put_row(table, reader.read_list())]


def call_set(table, reader):
    number = reader.read_number()
    return [set_row(table, number, reader.read_list())]


def call_take(table, reader):
    return [take_row(table, reader.read_number())]


def call_has(table, reader):
    return [has_row(table, reader.read_number())]


def call_row(table, reader):
    return fields_of_row(table, reader.read_number())


def call_count(table, reader):
    return counts(table)


def call_nth(table, reader):
    k = reader.read_number()
    return [nth_row(table, k, reader.read_number())]


def call_rank(table, reader):
    k = reader.read_number()
    return [rank_of_row(table, k, reader.read_number())]


def call_find(table, reader):
    k = reader.read_number()
    how = reader.read_number()
    return [find_row(table, k, how, reader.read_list())]


def call_many(table, reader):
    k = reader.read_number()
    first = reader.read_list()
    return [how_many_between(table, k, first, reader.read_list())]


def call_sum(table, reader):
    k = reader.read_number()
    field = reader.read_number()
    first = reader.read_list()
    return [sum_between(table, k, field, first, reader.read_list())]


def call_cursor(table, reader):
    k = reader.read_number()
    return [add_cursor(table, k, reader.read_number())]


def call_drop(table, reader):
    return [drop_cursor(table, reader.read_number())]


def call_go(table, reader):
    c = reader.read_number()
    return [go_to_row(table, c, reader.read_number())]


def call_seek(table, reader):
    c = reader.read_number()
    behind = reader.read_number()
    return [seek_key(table, c, behind, reader.read_list())]


def call_at(table, reader):
    return [row_at_cursor(table, reader.read_number())]


def call_next(table, reader):
    return [step_on(table, reader.read_number())]


def call_prev(table, reader):
    return [step_back(table, reader.read_number())]


def call_walk(table, reader):
    k = reader.read_number()
    most = reader.read_number()
    first = reader.read_list()
    end = reader.read_list()
    return walk_rows(table, k, most, first, end, reader.read_list())


def call_mark(table, reader):
    return [set_mark(table)]


def call_back(table, reader):
    return [go_back(table)]


def call_keep(table, reader):
    return [keep_rows(table)]


def call_save(table, reader):
    return save_table(table)


def call_load(table, reader):
    return [load_table(table, reader.read_list())]


def call_sound(table, reader):
    return [is_sound(reader.read_list())]


def call_before(table, reader):
    codes = reader.read_list()
    first = reader.read_list()
    return [compare_rows(codes, first, reader.read_list())]


def call_pack(table, reader):
    codes = reader.read_list()
    return pack_row(codes, reader.read_list())


def call_unpack(table, reader):
    codes = reader.read_list()
    return unpack_row(codes, reader.read_list())


# A call's number is its position here.
CALLS = (
    call_new,
    call_order,
    call_put,
    call_set,
    call_take,
    call_has,
    call_row,
    call_count,
    call_nth,
    call_rank,
    call_find,
    call_many,
    call_sum,
    call_cursor,
    call_drop,
    call_go,
    call_seek,
    call_at,
    call_next,
    call_prev,
    call_walk,
    call_mark,
    call_back,
    call_keep,
    call_save,
    call_load,
    call_sound,
    call_before,
    call_pack,
    call_unpack,
)


def answers(calls):
    """Answer each call in turn: how many numbers are answered, then these."""
    table = Table()
    reader = Reader(calls)
    told = []
    while not reader.is_done():
        call = CALLS[reader.read_number()]
        answer = call(table, reader)
        told.append(len(answer))
        told.extend(answer)
    return told
