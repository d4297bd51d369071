"""A table's state: rows, orders, cursors and marks, kept in step with one another."""

from standtable.order import BEFORE_ALL

ROOM_FOR_ROWS = 256
ROOM_FOR_ORDERS = 6
ROOM_FOR_CURSORS = 16
ROOM_FOR_MARKS = 8
ROOM_FOR_CHANGES = 512
LAST_ROW_NUMBER = 2147483647


class Cursor:
    """A cursor on order k: it stands at a place, and follows its row or doesn't."""

    def __init__(self, k, follows):
        self.k = k
        self.follows = follows
        self.place = BEFORE_ALL


class Mark:
    """The rows and the next number as they were, and how many changes stood then since the first mark."""

    def __init__(self, rows, next_number, changes):
        self.rows = dict(rows)
        self.next_number = next_number
        self.changes = changes


class Table:
    """All of one table. Its methods refuse nothing: whoever calls them has asked first."""

    def __init__(self):
        self.begin()

    def begin(self):
        """Make the table new."""
        self.rows = {}
        self.next_number = 1
        self.orders = []
        self.cursors = {}
        self.marks = []
        self.changes = 0

    def has_order(self, k):
        """Tell if there's an order k."""
        return k < len(self.orders)

    def has_room_for_row(self):
        """Tell if one more row finds room and a number."""
        return len(self.rows) < ROOM_FOR_ROWS and self.next_number <= LAST_ROW_NUMBER

    def has_room_for_change(self):
        """Tell if one more put, set or take may be made beside the marks that stand."""
        return len(self.marks) == 0 or self.changes < ROOM_FOR_CHANGES

    def barring_order(self, number, row):
        """The least unique order in which another row has this row's key, or None."""
        for k, order in enumerate(self.orders):
            if order.unique and order.has_other(number, row):
                return k
        return None

    def add_row(self, number, row):
        """Put a row into the table and every order."""
        self.rows[number] = tuple(row)
        for order in self.orders:
            order.stand(number, row)

    def remove_row(self, number):
        """Take a row out of the table and every order."""
        row = self.rows.pop(number)
        for order in self.orders:
            order.leave(number, row)

    def restore(self, rows, next_number):
        """Have these rows and this next number in the place of what was; cursors stay where they are."""
        self.rows = dict(rows)
        self.next_number = next_number
        self.stand_rows()

    def stand_rows(self):
        """Give all rows their places in every order, whatever stood there."""
        for order in self.orders:
            order.stand_all(self.rows)

    def become(self, other):
        """Have another table's orders and rows, without cursors and marks. The other isn't used any more."""
        self.begin()
        self.rows = other.rows
        self.next_number = other.next_number
        self.orders = other.orders

    def row_at(self, cursor):
        """The number of the row that a cursor is at, or 0."""
        number = cursor.place[1]
        if number not in self.rows:
            return 0
        place = self.orders[cursor.k].place_of(number, self.rows[number])
        return number if place == cursor.place else 0

    def move_followers(self, number, row):
        """Move the cursors that follow and are at a row to the place of its coming fields."""
        for cursor in self.cursors.values():
            if cursor.follows and self.row_at(cursor) == number:
                cursor.place = self.orders[cursor.k].place_of(number, row)

    def note_change(self):
        """Count a put, set or take. The first mark begins the count anew, and only marks ask for it."""
        self.changes = self.changes + 1
