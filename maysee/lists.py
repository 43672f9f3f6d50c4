"""Calls on one list of many people's things and on its readers, and what they answer."""

BEGIN = 0
ADD = 1
SET = 2
DROP = 3
ERASE = 4
OPEN_READER = 5
READ_ON = 6
READ_BACK = 7
COUNT_LEFT = 8
CLOSE_READER = 9

# By a call's number, how many whole numbers stand behind it.
NUMBERS_BEHIND = (0, 4, 5, 2, 2, 5, 3, 3, 2, 2)

NOT_THEIRS = -1
NOT_FOUND = -2
ERASED_BEFORE = -17
OUT_OF_RANGE = -22
NO_ROOM = -28

LAST_PERSON = 15
LAST_MASK = 65535
LAST_NUMBER = 4294967295
MOST_AT_ONCE = 64
MOST_READERS = 8
MOST_TOLD = 20
MOST_EVER = 1000000

# The last of the two modes: who reads the list as it was, and not as it is.
AS_IT_WAS = 1

A_FALLING = 1
B_RISING = 2
B_FALLING = 3


class UnknownCall(ValueError):
    """The number that stands where a call begins is no call's."""


class Thing:
    """One thing: whose it is, its numbers, for whom it is, and whether it's still there."""

    def __init__(self, owner, a, b, mask):
        self.owner = owner
        self.a = a
        self.b = b
        self.mask = mask
        self.there = True
        self.erased = False

    def seen_by(self, w):
        """Whether person w may see it. A dropped thing stays in sight, for who reads the list as it was."""
        if self.erased:
            return False
        return self.owner == w or (self.mask >> w) & 1 == 1


class Reader:
    """One reader: whose it is, what it reads and in which order, and its place there.

    What it reads are rows: a thing's id, its a and its b.
    """

    def __init__(self, owner, order, lo, hi, kept):
        self.owner = owner
        self.order = order
        self.lo = lo
        self.hi = hi
        # The rows that there were when it was opened, or None for who reads those that there are.
        self.kept = kept
        # What has this rank or a greater one is ahead; no rank is less than this, so it's before all.
        self.place = (0, 0)

    def rank_of(self, row):
        """Where a row stands in the order: the lesser rank is before, and of those alike the lesser id."""
        number = row[2] if self.order >= B_RISING else row[1]
        if self.order == A_FALLING or self.order == B_FALLING:
            number = LAST_NUMBER - number
        return (number, row[0])

    def in_range(self, row):
        return self.lo <= row[1] and row[1] <= self.hi

    def is_ahead(self, row):
        return self.rank_of(row) >= self.place

    def go_before(self, row):
        self.place = self.rank_of(row)

    def go_behind(self, row):
        rank = self.rank_of(row)
        # Ids are whole numbers: the first rank that can stand behind this one has the id that's one more.
        self.place = (rank[0], rank[1] + 1)


class Board:
    """What came since the last begin: the things, by their ids, and the readers that aren't closed."""

    def __init__(self):
        self.things = []
        self.how_many = 0
        self.readers = {}
        self.opened = 0

    def begin(self):
        self.things = []
        self.how_many = 0
        self.readers = {}
        self.opened = 0
        return 0

    def add(self, w, a, b, mask):
        if w > LAST_PERSON or mask > LAST_MASK:
            return OUT_OF_RANGE
        if self.how_many >= MOST_AT_ONCE or len(self.things) >= MOST_EVER:
            return NO_ROOM
        self.things.append(Thing(w, a, b, mask))
        self.how_many = self.how_many + 1
        return len(self.things) - 1

    def change(self, w, i, a, b, mask):
        refusal = self.refusal_of_change(w, i)
        if refusal != 0:
            return refusal
        if mask > LAST_MASK:
            return OUT_OF_RANGE
        thing = self.things[i]
        thing.a = a
        thing.b = b
        thing.mask = mask
        return 0

    def drop(self, w, i):
        refusal = self.refusal_of_change(w, i)
        if refusal != 0:
            return refusal
        self.take_away(self.things[i])
        return 0

    def erase(self, w, i):
        if i >= len(self.things):
            return NOT_FOUND
        thing = self.things[i]
        if thing.owner != w:
            return NOT_THEIRS
        if thing.erased:
            return ERASED_BEFORE
        # A dropped thing left the count when it was dropped.
        if thing.there:
            self.take_away(thing)
        thing.erased = True
        return 0

    def refusal_of_change(self, w, i):
        """Why w may not set or drop thing i, or 0; what's gone is not found, whoever asks."""
        if i >= len(self.things) or not self.things[i].there:
            return NOT_FOUND
        if self.things[i].owner != w:
            return NOT_THEIRS
        return 0

    def take_away(self, thing):
        thing.there = False
        self.how_many = self.how_many - 1

    def open_reader(self, w, mode, order, lo, hi):
        if w > LAST_PERSON or mode > AS_IT_WAS or order > B_FALLING or lo > hi:
            return OUT_OF_RANGE
        if len(self.readers) >= MOST_READERS or self.opened >= MOST_EVER:
            return NO_ROOM
        # Rows that w may not see are kept too: who may see a thing is asked anew each time it's read.
        kept = self.rows_there() if mode == AS_IT_WAS else None
        self.readers[self.opened] = Reader(w, order, lo, hi, kept)
        self.opened = self.opened + 1
        return self.opened - 1

    def read_on(self, w, r, n):
        """What next answers: the first n rows ahead, or why there are none to tell."""
        refusal = self.refusal_of_reading(w, r, n)
        if refusal != 0:
            return [refusal]
        reader = self.readers[r]
        rows = [row for row in self.rows_read(reader) if reader.is_ahead(row)][:n]
        if len(rows) > 0:
            reader.go_behind(rows[-1])
        return numbers_of(rows)

    def read_back(self, w, r, n):
        """What back answers: the last n rows that aren't ahead, or why there are none to tell."""
        refusal = self.refusal_of_reading(w, r, n)
        if refusal != 0:
            return [refusal]
        reader = self.readers[r]
        rows = [row for row in self.rows_read(reader) if not reader.is_ahead(row)][-n:]
        if len(rows) > 0:
            reader.go_before(rows[0])
        return numbers_of(rows)

    def count_left(self, w, r):
        refusal = self.refusal_of_reader(w, r)
        if refusal != 0:
            return refusal
        reader = self.readers[r]
        return len([row for row in self.rows_read(reader) if reader.is_ahead(row)])

    def close_reader(self, w, r):
        refusal = self.refusal_of_reader(w, r)
        if refusal != 0:
            return refusal
        self.readers.pop(r)
        return 0

    def refusal_of_reader(self, w, r):
        """Why w may not use reader r, or 0."""
        if r not in self.readers:
            return NOT_FOUND
        if self.readers[r].owner != w:
            return NOT_THEIRS
        return 0

    def refusal_of_reading(self, w, r, n):
        """Why w may not be told n rows by reader r, or 0."""
        refusal = self.refusal_of_reader(w, r)
        if refusal != 0:
            return refusal
        if n < 1 or n > MOST_TOLD:
            return OUT_OF_RANGE
        return 0

    def rows_there(self):
        return [(i, thing.a, thing.b) for i, thing in enumerate(self.things) if thing.there]

    def rows_read(self, reader):
        """All that a reader reads now, in its order, wherever its place is."""
        rows = self.rows_there() if reader.kept is None else reader.kept
        seen = [row for row in rows if reader.in_range(row) and self.things[row[0]].seen_by(reader.owner)]
        return sorted(seen, key=reader.rank_of)


def numbers_of(rows):
    """How many rows there are, then the numbers of each."""
    numbers = [len(rows)]
    for row in rows:
        numbers.extend(row)
    return numbers


def answer_of(board, call, given):
    """The numbers that one call answers; given are the whole numbers behind the call's own."""
    if call == BEGIN:
        return [board.begin()]
    if call == ADD:
        return [board.add(given[0], given[1], given[2], given[3])]
    if call == SET:
        return [board.change(given[0], given[1], given[2], given[3], given[4])]
    if call == DROP:
        return [board.drop(given[0], given[1])]
    if call == ERASE:
        return [board.erase(given[0], given[1])]
    return answer_on_readers(board, call, given)


def answer_on_readers(board, call, given):
    """As answer_of, for the calls on readers."""
    if call == OPEN_READER:
        return [board.open_reader(given[0], given[1], given[2], given[3], given[4])]
    if call == READ_ON:
        return board.read_on(given[0], given[1], given[2])
    if call == READ_BACK:
        return board.read_back(given[0], given[1], given[2])
    if call == COUNT_LEFT:
        return [board.count_left(given[0], given[1])]
    return [board.close_reader(given[0], given[1])]


def answers(calls):
    """For each call, in order: how many numbers it answers, then these."""
    board = Board()
    told = []
    place = 0
    while place < len(calls):
        call = calls[place]
        if call < BEGIN or call > CLOSE_READER:
            raise UnknownCall(f"no such call: {call}")
        behind = place + 1 + NUMBERS_BEHIND[call]
        answer = answer_of(board, call, calls[place + 1:behind])
        told.append(len(answer))
        told.extend(answer)
        place = behind
    return told
