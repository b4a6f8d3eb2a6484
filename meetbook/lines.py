"""Entries written as lines, and lines read to entries."""

from meetbook.errors import NoLine

LETTERS = "abcdefghijklmnopqrstuvwxyz"
FIGURES = "0123456789"


# Figure by figure, here and in number_of: Python's own str and int refuse numbers of some thousands of figures.
def in_figures(number):
    rest = abs(number)
    signs = [FIGURES[rest % 10]]
    while rest > 9:
        rest = rest // 10
        signs.append(FIGURES[rest % 10])
    if number < 0:
        signs.append("-")
    return "".join(reversed(signs))


def shown_entry(entry):
    name = entry[0]
    hand = in_figures(entry[1][0])
    number = in_figures(entry[1][1])
    value = in_figures(entry[2])
    return f"{name} {hand}.{number} {value}"


def shown(rows):
    return [shown_entry(entry) for entry in rows]


def made_of(word, signs):
    return word != "" and all([sign in signs for sign in word])


def number_of(word):
    if not made_of(word, FIGURES):
        raise NoLine("a number is written in figures")
    if word[0] == "0" and word != "0":
        raise NoLine("a number's first figure is no nought")
    number = 0
    for sign in word:
        number = number * 10 + FIGURES.index(sign)
    return number


def value_of(word):
    if not word.startswith("-"):
        return number_of(word)
    number = number_of(word[1:])
    if number == 0:
        raise NoLine("nought has no sign ahead")
    return -number


def mark_of(count, word):
    parts = word.split(".")
    if len(parts) != 2:
        raise NoLine("a mark is two numbers with a dot between")
    mark = (number_of(parts[0]), number_of(parts[1]))
    if mark[0] >= count or mark[1] < 1:
        raise NoLine("a mark is of a hand that there is and of a deed from one on")
    return mark


def entry_of(count, line):
    words = line.split(" ")
    if len(words) != 3:
        raise NoLine("a line is a name, a mark and a value with one blank between")
    if not made_of(words[0], LETTERS):
        raise NoLine("a name is of letters from a to z")
    return (words[0], mark_of(count, words[1]), value_of(words[2]))


def read(count, lines):
    rows = [entry_of(count, line) for line in lines]
    if rows != sorted(rows):
        raise NoLine("the lines are not by name and mark")
    # Asked of all marks, for one may stand twice under two names, far from one another.
    if len(set([row[1] for row in rows])) != len(rows):
        raise NoLine("a mark stands twice")
    return rows
