"""One collection of versions: which there are, what is made and told of them, and what is refused."""

from keptrows.origins import NONE, Origins
from keptrows.reading import first_difference, numbers_in, times_in
from keptrows.rows import row_of, stretch_of, turned_round, with_stretch_as

MOST_VERSIONS = 8192
MOST_NUMBERS = 65536
MOST_TOLD = 131072

NO_MORE_VERSIONS = -1
NOT_AS_TOLD = -2
TOO_MANY_NUMBERS = -3


class Collection:
    def __init__(self):
        self.rows = []
        self.origins = Origins()
        self.told = 0
        self.differences = {}

    def begin(self):
        self.rows = [row_of([])]
        self.origins = Origins()
        self.origins.add(NONE)
        self.told = 0
        self.differences = {}
        return 0

    def make(self, numbers):
        if len(numbers) > MOST_NUMBERS:
            return NOT_AS_TOLD
        return self.keep(row_of(numbers), NONE, len(numbers))

    def insert_number(self, v, at, x):
        return self.replace_stretch(v, at, at, row_of([x]), 1)

    def set_number(self, v, at, x):
        return self.replace_stretch(v, at, at + 1, row_of([x]), 1)

    def remove_stretch(self, v, start, end):
        return self.replace_stretch(v, start, end, row_of([]), 0)

    def part_stretch(self, v, start, end):
        if not self.has_stretch(v, start, end):
            return NOT_AS_TOLD
        return self.keep(stretch_of(self.rows[v], start, end), v, 0)

    def turn_stretch(self, v, start, end):
        if not self.has_stretch(v, start, end):
            return NOT_AS_TOLD
        back = turned_round(stretch_of(self.rows[v], start, end))
        return self.replace_stretch(v, start, end, back, 0)

    def join_versions(self, v, w):
        if not self.has_versions(v, w):
            return NOT_AS_TOLD
        return self.put_version(v, self.rows[v].length, w)

    def put_version(self, v, at, w):
        if not self.has_versions(v, w):
            return NOT_AS_TOLD
        return self.replace_stretch(v, at, at, self.rows[w], 0)

    def length_of(self, v):
        return self.rows[v].length if self.has_version(v) else NOT_AS_TOLD

    def out_stretch(self, v, start, end):
        """How many numbers the stretch has, then these; or the refusal alone."""
        if not self.has_stretch(v, start, end):
            return [NOT_AS_TOLD]
        return [end - start] + numbers_in(self.rows[v], start, end)

    def count_number(self, v, start, end, x):
        if not self.has_stretch(v, start, end):
            return NOT_AS_TOLD
        return times_in(self.rows[v], start, end, x)

    def differ_place(self, v, w):
        if not self.has_versions(v, w):
            return NOT_AS_TOLD
        # Versions never change, so neither does what is found of two of them.
        pair = (min(v, w), max(v, w))
        if pair not in self.differences:
            self.differences[pair] = first_difference(self.rows[v], self.rows[w])
        return self.differences[pair]

    def origin_version(self, v, w):
        if not self.has_versions(v, w):
            return NOT_AS_TOLD
        return self.origins.last_common(v, w)

    def has_version(self, v):
        return v < len(self.rows)

    def has_versions(self, v, w):
        return self.has_version(v) and self.has_version(w)

    def has_stretch(self, v, start, end):
        return self.has_version(v) and start <= end <= self.rows[v].length

    def replace_stretch(self, v, start, end, row, told):
        """Makes version v anew with the row in place of the stretch; told is how many numbers the call tells."""
        if not self.has_stretch(v, start, end):
            return NOT_AS_TOLD
        return self.keep(with_stretch_as(self.rows[v], start, end, row), v, told)

    def keep(self, row, source, told):
        """Keeps the row as a new version, made of source; told is how many numbers the call tells."""
        if len(self.rows) >= MOST_VERSIONS:
            return NO_MORE_VERSIONS
        if row.length > MOST_NUMBERS or self.told + told > MOST_TOLD:
            return TOO_MANY_NUMBERS
        self.rows.append(row)
        self.origins.add(source)
        self.told = self.told + told
        return len(self.rows) - 1
