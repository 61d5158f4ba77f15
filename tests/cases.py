"""Lists of rows for the tests, and the points word by word, to hold the program against."""

import copy
import itertools

from fewplaces.errors import PlaceError

REFUSED = {
    "the only row tells": [("tell", "a")],
    "another name is written": [("set", "a", 1), ("tell", "b")],
    "the first of two names": [("set", "b", 1), ("add", "c", "a", "b")],
    "the second of two names": [("set", "a", 1), ("sub", "c", "a", "b")],
    "that same row writes it": [("mul", "a", "a", "a")],
    "that same row writes it, the other is there": [("set", "b", 1), ("add", "a", "b", "a")],
    "only a later row writes it": [("tell", "a"), ("set", "a", 1)],
    "that row and a later one write it": [("add", "a", "a", "a"), ("take", "a"), ("tell", "a")],
    "what the row writes is never used": [("set", "a", 1), ("add", "c", "a", "b"), ("tell", "a")],
    "the empty name": [("set", " ", 1), ("tell", "")],
    "a name that differs in one sign": [("set", "ab", 1), ("tell", "aB")],
    "a name that differs by a blank": [("take", "a"), ("tell", "a ")],
    "the last row of many": [("set", "a", 1)] * 120 + [("tell", "b")],
}


def uses(row):
    return {"set": (), "take": (), "tell": row[1:]}.get(row[0], row[2:])


def writes(row):
    return () if row[0] == "tell" else row[1:2]


# Point 4 word by word.
def needed_by_the_words(rows, at, name):
    for later in range(at + 1, len(rows)):
        between = rows[at + 1:later]
        if name in uses(rows[later]) and not any(name in writes(row) for row in between):
            return True
    return False


def living_by_the_words(rows):
    names = sorted({name for row in rows for name in uses(row) + writes(row)})
    return [[name for name in names if needed_by_the_words(rows, at, name)] for at in range(len(rows))]


# Point 5 word by word.
def most_by_the_words(rows):
    at_once = [sorted(set(needed) | set(writes(row))) for row, needed in zip(rows, living_by_the_words(rows))]
    most = max((len(names) for names in at_once), default=0)
    if most == 0:
        return (None, [])
    return next((at, names) for at, names in enumerate(at_once) if len(names) == most)


def refused_by_the_words(rows):
    return any(
        not any(name in writes(before) for before in rows[:at])
        for at, row in enumerate(rows)
        for name in uses(row)
    )


def every_short_list_of_rows(names, most):
    kinds = [("set", name, 1) for name in names] + [("tell", name) for name in names]
    kinds += [("sub",) + chosen for chosen in itertools.product(names, repeat=3)]
    for length in range(most + 1):
        for rows in itertools.product(kinds, repeat=length):
            yield list(rows)


# Point 7 word by word.
def places_needed_by_the_words(row):
    return max(len(set(uses(row))), len(writes(row)))


# Whether it answers or refuses, what is handed in is to stay: the lists, and the very tuples in them.
def leaves_as_they_were(asked, *handed_in):
    before = copy.deepcopy(handed_in)
    tuples = list(handed_in[0])
    try:
        asked(*handed_in)
    except PlaceError:
        pass
    same_tuples = len(tuples) == len(handed_in[0]) and all(row is was for row, was in zip(handed_in[0], tuples))
    return handed_in == before and same_tuples


# The same numbers at every run, so that a failure comes again.
class Drawing:
    def __init__(self, seed):
        self.state = seed

    def below(self, bound):
        self.state = (self.state * 6364136223846793005 + 1442695040888963407) % 2 ** 64
        return (self.state >> 33) % bound

    def one_of(self, choice):
        return choice[self.below(len(choice))]


def drawn_rows(seed, count):
    drawing = Drawing(seed)
    names = ["", " ", "a", "A", "a ", "tell", "shelve", "\u00e4", "10", "9", "b", "c", "d", "e"][:2 + seed % 13]
    # Products are few: each may double the figures of a number.
    kinds = ["set", "take", "tell", "tell", "add", "sub", "add", "sub", "mul"]
    written = []
    rows = []
    while len(rows) < count:
        kind = drawing.one_of(kinds) if written else "take"
        name = drawing.one_of(names)
        if kind == "tell":
            rows.append(("tell", drawing.one_of(written)))
            continue
        if kind == "set":
            rows.append(("set", name, drawing.below(2 * 10 ** 6) - 10 ** 6))
        elif kind == "take":
            rows.append(("take", name))
        else:
            rows.append((kind, name, drawing.one_of(written), drawing.one_of(written)))
        if kind == "mul" and sum(row[0] == "mul" for row in rows) == 6:
            kinds.remove("mul")
        if name not in written:
            written.append(name)
    return rows
