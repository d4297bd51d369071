"""One order of a table, and the places of all rows in it."""

from standtable.rules import key_of

# Rows have numbers from 1 to 2147483647, so among rows of one key
# the first of these is before them all, the second behind them all.
FIRST_NUMBER = 0
LAST_NUMBER = 4294967295

# Keys have numbers from 0 to 18446744073709551615 in them. These two places have the number 0, which
# no row has, so whoever asks them for a row's number is told that there's none.
BEFORE_ALL = ((-1,), 0)
BEHIND_ALL = ((18446744073709551616,), 0)


class Order:
    """An order's codes, and the rows' places, from the first on.

    A place is a tuple of a key and a number, so that places compare as the order does.
    """

    def __init__(self, codes, unique):
        self.codes = tuple(codes)
        self.unique = unique
        self.places = []

    def place_of(self, number, fields):
        """The place of these fields with this number."""
        return (key_of(self.codes, fields), number)

    def stand_all(self, rows):
        """Give every row of a dict its place, and no other row."""
        self.places = sorted([self.place_of(number, rows[number]) for number in rows])

    def stand(self, number, row):
        """Give one more row its place."""
        place = self.place_of(number, row)
        self.places.insert(self.how_many_before(place), place)

    def leave(self, number, row):
        """Take a row's place away."""
        self.places.pop(self.how_many_before(self.place_of(number, row)))

    def how_many_before(self, place):
        """How many rows stand before a place."""
        low = 0
        high = len(self.places)
        while low < high:
            middle = (low + high) // 2
            if self.places[middle] < place:
                low = middle + 1
            else:
                high = middle
        return low

    def place_behind(self, place):
        """The place of the first row behind a place, or behind all."""
        position = self.how_many_before((place[0], place[1] + 1))
        return self.places[position] if position < len(self.places) else BEHIND_ALL

    def place_before(self, place):
        """The place of the last row before a place, or before all."""
        position = self.how_many_before(place) - 1
        return self.places[position] if position >= 0 else BEFORE_ALL

    def how_many_before_key(self, key):
        """How many rows are before key by the order alone."""
        return self.how_many_before(self.place_of(FIRST_NUMBER, key))

    def how_many_up_to_key(self, key):
        """How many rows are before key by the order alone, or have its key."""
        return self.how_many_before(self.place_of(LAST_NUMBER, key))

    def number_at(self, position):
        """The number of the row that has so many rows before it, or 0."""
        if position < 0 or position >= len(self.places):
            return 0
        return self.places[position][1]

    def numbers_between(self, first, end):
        """The numbers of the rows that aren't before first and are before end, by the order alone."""
        start = self.how_many_before_key(first)
        stop = self.how_many_before_key(end)
        return [place[1] for place in self.places[start:stop]]

    def has_other(self, number, row):
        """Tell if another row than this number's has the key of these fields."""
        start = self.how_many_before_key(row)
        stop = self.how_many_up_to_key(row)
        return any([place[1] != number for place in self.places[start:stop]])

    def has_same_keys(self):
        """Tell if two rows have the same key."""
        return len(set([place[0] for place in self.places])) < len(self.places)
