"""One collection of versions: which there are, of which each was made, and what is refused."""

from keptrows.rows import row_of, stretch_of, turned_round, with_stretch_as

MOST_VERSIONS = 8192
MOST_NUMBERS = 65536
MOST_TOLD = 131072

NO_MORE_VERSIONS = -1
NOT_AS_TOLD = -2
TOO_MANY_NUMBERS = -3

MADE_OF_NONE = -1


class Collection:
    def __init__(self):
        self.rows = []
        self.sources = []
        self.told = 0

    def begin(self):
        self.rows = [row_of([])]
        self.sources = [MADE_OF_NONE]
        self.told = 0
        return 0

    def make(self, numbers):
        if len(numbers) > MOST_NUMBERS:
            return NOT_AS_TOLD
        return self.keep(row_of(numbers), MADE_OF_NONE, len(numbers))

    def insert_number(self, v, at, x):
        return self.replace_stretch(v, at, at, row_of([x]))

    def set_number(self, v, at, x):
        return self.replace_stretch(v, at, at + 1, row_of([x]))

    def remove_stretch(self, v, start, end):
        return self.replace_stretch(v, start, end, row_of([]))

    def part_stretch(self, v, start, end):
        if not self.has_stretch(v, start, end):
            return NOT_AS_TOLD
        return self.keep(stretch_of(self.rows[v], start, end), v, 0)

    def turn_stretch(self, v, start, end):
        if not self.has_stretch(v, start, end):
            return NOT_AS_TOLD
        row = self.rows[v]
        back = turned_round(stretch_of(row, start, end))
        return self.keep(with_stretch_as(row, start, end, back), v, 0)

    def replace_stretch(self, v, start, end, told_row):
        if not self.has_stretch(v, start, end):
            return NOT_AS_TOLD
        return self.keep(with_stretch_as(self.rows[v], start, end, told_row), v, told_row.length)

    def has_stretch(self, v, start, end):
        return v < len(self.rows) and start <= end <= self.rows[v].length

    def keep(self, row, source, told):
        """Keeps the row as a new version; told is how many numbers its call told."""
        if len(self.rows) >= MOST_VERSIONS:
            return NO_MORE_VERSIONS
        if row.length > MOST_NUMBERS or self.told + told > MOST_TOLD:
            return TOO_MANY_NUMBERS
        self.rows.append(row)
        self.sources.append(source)
        self.told = self.told + told
        return len(self.rows) - 1
