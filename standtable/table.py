"""A table's state: rows, orders, cursors and marks, kept in step with one another."""

ROOM_FOR_ROWS = 256
ROOM_FOR_ORDERS = 6
ROOM_FOR_CURSORS = 16
ROOM_FOR_CHANGES = 512
LAST_ROW_NUMBER = 2147483647

# No key of an order has so low a number in it, so this is before every row's place.
BEFORE_ALL = ((-18446744073709551616,), 0)


class Cursor:
    """A cursor on order k: it stands at a place, and follows its row or doesn't."""

    def __init__(self, k, follows):
        self.k = k
        self.follows = follows
        self.place = BEFORE_ALL


class Table:
    """All of one table. Its methods refuse nothing: whoever calls them has asked first."""

    def __init__(self):
        self.begin()

    def begin(self):
        """Make the table new."""
        self.rows = {}
        self.next_number = 1
        self.orders = []
        self.cursors = {}
        self.marks = []
        self.changes = 0

    def has_order(self, k):
        """Tell if there's an order k."""
        return k < len(self.orders)

    def has_room_for_row(self):
        """Tell if one more row finds room and a number."""
        return len(self.rows) < ROOM_FOR_ROWS and self.next_number <= LAST_ROW_NUMBER

    def has_room_for_change(self):
        """Tell if one more put, set or take may be made beside the marks that stand."""
        return len(self.marks) == 0 or self.changes < ROOM_FOR_CHANGES

    def barring_order(self, number, row):
        """The least unique order in which another row has this row's key, or None."""
        for k, order in enumerate(self.orders):
            if order.unique and order.has_other(number, row):
                return k
        return None

    def add_row(self, number, row):
        """Put a row into the table and every order."""
        self.rows[number] = tuple(row)
        for order in self.orders:
            order.stand(number, row)

    def remove_row(self, number):
        """Take a row out of the table and every order."""
        row = self.rows.pop(number)
        for order in self.orders:
            order.leave(number, row)

    def move_followers(self, number, row):
        """Move the cursors that follow and are at a row to the place of its coming fields."""
        for cursor in self.cursors.values():
            order = self.orders[cursor.k]
            if cursor.follows and cursor.place == order.place_of(number, self.rows[number]):
                cursor.place = order.place_of(number, row)

    def note_change(self):
        """Count a put, set or take; only marks ask for the count."""
        if len(self.marks) > 0:
            self.changes = self.changes + 1
