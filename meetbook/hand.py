"""Entries of a hand's table: tuples of a name, a mark and a value."""


def values_of(rows, name):
    return [row[2] for row in rows if row[0] == name]
