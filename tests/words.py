"""The document's words once more, written another way, for the tests to hold answers against.

What was is not kept but found again: a thing's numbers at some time are looked up in the list of all that was done
to it, and a reader's place is a side of a pair of numbers that is compared one number at a time.
"""

import functools


class Words:
    def __init__(self):
        self.begin()

    def begin(self):
        self.time = 0
        self.owners = []
        self.done = []
        self.readers = []
        return [0]

    def states(self, i, time):
        return [state for when, which, state in self.done if which == i and when <= time]

    def there(self, i, time):
        states = self.states(i, time)
        return bool(states) and states[-1] not in ("dropped", "erased")

    def count(self):
        return sum(self.there(i, self.time) for i in range(len(self.owners)))

    def erased(self, i):
        return "erased" in self.states(i, self.time)

    def note(self, i, state):
        self.done.append((self.time, i, state))

    def add(self, w, a, b, mask):
        if w > 15 or mask > 65535:
            return [-22]
        if self.count() == 64:
            return [-28]
        self.owners.append(w)
        self.note(len(self.owners) - 1, (a, b, mask))
        return [len(self.owners) - 1]

    def refused(self, w, i):
        if i >= len(self.owners) or not self.there(i, self.time):
            return [-2]
        return [-1] if self.owners[i] != w else None

    def change(self, w, i, a, b, mask):
        refused = self.refused(w, i) or ([-22] if mask > 65535 else None)
        if refused is None:
            self.note(i, (a, b, mask))
        return refused or [0]

    def drop(self, w, i):
        refused = self.refused(w, i)
        if refused is None:
            self.note(i, "dropped")
        return refused or [0]

    def erase(self, w, i):
        if i >= len(self.owners):
            return [-2]
        if self.owners[i] != w:
            return [-1]
        if self.erased(i):
            return [-17]
        self.note(i, "erased")
        return [0]

    def may_see(self, w, i):
        if self.erased(i):
            return False
        masks = [state[2] for state in self.states(i, self.time) if state != "dropped"]
        return self.owners[i] == w or masks[-1] // 2 ** w % 2 == 1

    def opening(self, w, mode, order, lo, hi):
        if w > 15 or mode > 1 or order > 3 or lo > hi:
            return [-22]
        if sum(reader is not None for reader in self.readers) == 8:
            return [-28]
        self.readers.append({"w": w, "mode": mode, "order": order, "lo": lo, "hi": hi, "time": self.time, "at": None})
        return [len(self.readers) - 1]

    def reads(self, reader):
        time = reader["time"] if reader["mode"] == 1 else self.time
        rows = []
        for i in range(len(self.owners)):
            if self.there(i, time) and self.may_see(reader["w"], i):
                a, b, mask = self.states(i, time)[-1]
                if a in range(reader["lo"], reader["hi"] + 1):
                    rows.append((i, a, b))
        order = reader["order"]
        return sorted(rows, key=functools.cmp_to_key(lambda x, y: compared(order, pair(order, x), pair(order, y))))

    def ahead(self, reader, row):
        if reader["at"] is None:
            return True
        side, at = reader["at"]
        way = compared(reader["order"], pair(reader["order"], row), at)
        return way > 0 or (way == 0 and side == "before")

    def refused_reader(self, w, r):
        if r >= len(self.readers) or self.readers[r] is None:
            return [-2]
        return [-1] if self.readers[r]["w"] != w else None

    def onward(self, w, r, n):
        refused = self.refused_reader(w, r) or ([-22] if n not in range(1, 21) else None)
        if refused:
            return refused
        reader = self.readers[r]
        rows = [row for row in self.reads(reader) if self.ahead(reader, row)]
        while len(rows) > n:
            rows.pop()
        if rows:
            reader["at"] = ("behind", pair(reader["order"], rows[-1]))
        return [len(rows)] + [number for row in rows for number in row]

    def backward(self, w, r, n):
        refused = self.refused_reader(w, r) or ([-22] if n not in range(1, 21) else None)
        if refused:
            return refused
        reader = self.readers[r]
        rows = [row for row in self.reads(reader) if not self.ahead(reader, row)]
        while len(rows) > n:
            rows.pop(0)
        if rows:
            reader["at"] = ("before", pair(reader["order"], rows[0]))
        return [len(rows)] + [number for row in rows for number in row]

    def left(self, w, r):
        refused = self.refused_reader(w, r)
        return refused or [sum(self.ahead(self.readers[r], row) for row in self.reads(self.readers[r]))]

    def close(self, w, r):
        refused = self.refused_reader(w, r)
        if refused is None:
            self.readers[r] = None
        return refused or [0]

    def answer(self, call):
        self.time += 1
        by_number = (self.begin, self.add, self.change, self.drop, self.erase,
                     self.opening, self.onward, self.backward, self.left, self.close)
        return by_number[call[0]](*call[1:])


def pair(order, row):
    return (row[1] if order in (0, 1) else row[2], row[0])


def compared(order, x, y):
    """Below 0 where x is before y in the order, 0 where they are the same place, above 0 where x is behind."""
    if x[0] != y[0]:
        rising = -1 if x[0] < y[0] else 1
        return rising if order in (0, 2) else -rising
    return (x[1] > y[1]) - (x[1] < y[1])


def all_answers(calls):
    words = Words()
    return [words.answer(call) for call in calls]
