"""A hand: its table, what it knows that each hand has seen, and what it keeps in mind as taken out.

An entry is a tuple of a name, a mark and a value.
"""

from meetbook.seen import common, has_seen, joined, newer


def values_of(rows, name):
    return [row[2] for row in rows if row[0] == name]


def left_by(entries, hand):
    # An entry that a hand has seen put in and hasn't got was taken out by a deed that it has seen.
    return [entry for entry in entries if entry[1] in hand.table or not has_seen(hand.seen(), entry[1])]


class Hand:
    def __init__(self, number, count):
        self.number = number
        self.knows = [[0] * count for row in range(count)]
        self.table = {}
        self.kept = {}

    # What a hand knows of itself is what it has seen, so this is kept once.
    def seen(self):
        return self.knows[self.number]

    def entries(self):
        return sorted(self.table.values())

    def known(self):
        return [list(row) for row in self.knows]

    def in_mind(self):
        return [(mark, list(self.kept[mark])) for mark in sorted(self.kept)]

    def put(self, name, value):
        mark = self.new_mark()
        self.table[mark] = (name, mark, value)
        return mark

    def change(self, name, value):
        # Asked ahead of the putting in, for the new entry is not to be taken out.
        marks = self.marks_of(name)
        mark = self.put(name, value)
        self.take_out(mark, marks)
        return mark

    def take(self, name):
        marks = self.marks_of(name)
        if not marks:
            return None
        self.take_out(self.new_mark(), marks)
        return marks

    def hear(self, teller):
        many = newer(self.seen(), teller.seen())
        seen = joined(self.seen(), teller.seen())
        table = {}
        for entry in left_by(self.entries(), teller) + left_by(teller.entries(), self):
            table[entry[1]] = entry
        self.table = table
        self.knows = [joined(ours, theirs) for ours, theirs in zip(self.knows, teller.knows)]
        self.knows[self.number] = seen
        self.kept.update(teller.kept)
        self.forget()
        return many

    def new_mark(self):
        seen = self.seen()
        seen[self.number] = seen[self.number] + 1
        return (self.number, seen[self.number])

    def marks_of(self, name):
        return [entry[1] for entry in self.entries() if entry[0] == name]

    def take_out(self, deed, marks):
        for mark in marks:
            self.table.pop(mark)
        if marks:
            self.kept[deed] = tuple(marks)
        # One hand alone has no other to wait for.
        self.forget()

    def forget(self):
        seen_by_all = common(self.knows)
        kept = {}
        for deed in self.kept:
            if not has_seen(seen_by_all, deed):
                kept[deed] = self.kept[deed]
        self.kept = kept
