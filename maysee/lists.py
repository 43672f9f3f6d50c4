"""Calls on one list of many people's things, and what they answer."""

BEGIN = 0
ADD = 1
SET = 2
DROP = 3
ERASE = 4

# By a call's number, how many whole numbers stand behind it.
NUMBERS_BEHIND = (0, 4, 5, 2, 2)

NOT_THEIRS = -1
NOT_FOUND = -2
ERASED_BEFORE = -17
OUT_OF_RANGE = -22
NO_ROOM = -28

LAST_PERSON = 15
LAST_MASK = 65535
MOST_AT_ONCE = 64
MOST_EVER = 1000000


class UnknownCall(ValueError):
    """The number that stands where a call begins is no call's."""


class Thing:
    """One thing: whose it is, its numbers, for whom it is, and whether it's still there."""

    def __init__(self, owner, a, b, mask):
        self.owner = owner
        self.a = a
        self.b = b
        self.mask = mask
        self.there = True
        self.erased = False

    def seen_by(self, w):
        """Whether person w may see it. A dropped thing stays in sight, for who reads the list as it was."""
        if self.erased:
            return False
        return self.owner == w or (self.mask >> w) & 1 == 1


class Board:
    """The things that ever came since the last begin; a thing's id is its place among them."""

    def __init__(self):
        self.things = []
        self.how_many = 0

    def begin(self):
        self.things = []
        self.how_many = 0
        return 0

    def add(self, w, a, b, mask):
        if w > LAST_PERSON or mask > LAST_MASK:
            return OUT_OF_RANGE
        if self.how_many >= MOST_AT_ONCE or len(self.things) >= MOST_EVER:
            return NO_ROOM
        self.things.append(Thing(w, a, b, mask))
        self.how_many = self.how_many + 1
        return len(self.things) - 1

    def change(self, w, i, a, b, mask):
        refusal = self.refusal_of_change(w, i)
        if refusal != 0:
            return refusal
        if mask > LAST_MASK:
            return OUT_OF_RANGE
        thing = self.things[i]
        thing.a = a
        thing.b = b
        thing.mask = mask
        return 0

    def drop(self, w, i):
        refusal = self.refusal_of_change(w, i)
        if refusal != 0:
            return refusal
        self.take_away(self.things[i])
        return 0

    def erase(self, w, i):
        if i >= len(self.things):
            return NOT_FOUND
        thing = self.things[i]
        if thing.owner != w:
            return NOT_THEIRS
        if thing.erased:
            return ERASED_BEFORE
        # A dropped thing left the count when it was dropped.
        if thing.there:
            self.take_away(thing)
        thing.erased = True
        return 0

    def refusal_of_change(self, w, i):
        """Why w may not set or drop thing i, or 0; what's gone is not found, whoever asks."""
        if i >= len(self.things) or not self.things[i].there:
            return NOT_FOUND
        if self.things[i].owner != w:
            return NOT_THEIRS
        return 0

    def take_away(self, thing):
        thing.there = False
        self.how_many = self.how_many - 1


def answer_of(board, call, given):
    """The numbers that one call answers; given are the whole numbers behind the call's own."""
    if call == BEGIN:
        return [board.begin()]
    if call == ADD:
        return [board.add(given[0], given[1], given[2], given[3])]
    if call == SET:
        return [board.change(given[0], given[1], given[2], given[3], given[4])]
    if call == DROP:
        return [board.drop(given[0], given[1])]
    return [board.erase(given[0], given[1])]


def answers(calls):
    """For each call, in order: how many numbers it answers, then these."""
    board = Board()
    told = []
    place = 0
    while place < len(calls):
        call = calls[place]
        if call < BEGIN or call > ERASE:
            raise UnknownCall(f"no such call: {call}")
        behind = place + 1 + NUMBERS_BEHIND[call]
        answer = answer_of(board, call, calls[place + 1:behind])
        told.append(len(answer))
        told.extend(answer)
        place = behind
    return told
