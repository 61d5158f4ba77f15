"""What rows tell when they are done: rows with names, and rows on places."""

from fewplaces.errors import NoInput, NoValue
from fewplaces.rows import refuse_unwritten


def told_by(rows, numbers):
    refuse_unwritten(rows)
    return told_in_order(rows, numbers)


def told_on_places(rows, numbers):
    return told_in_order(rows, numbers)


# Names and places are both only what a number is kept under, so one walk does for both sorts of rows.
def told_in_order(rows, numbers):
    kept = {}
    shelf = {}
    told = []
    taken = 0
    for row in rows:
        if row[0] == "tell":
            told.append(number_of(row[1], kept))
        elif row[0] == "shelve":
            shelf[row[1]] = number_of(row[2], kept)
        elif row[0] == "fetch":
            kept[row[1]] = number_of(row[2], shelf)
        elif row[0] == "set":
            kept[row[1]] = row[2]
        elif row[0] == "take":
            kept[row[1]] = number_coming_in(numbers, taken)
            taken += 1
        else:
            kept[row[1]] = reckoned(row[0], number_of(row[2], kept), number_of(row[3], kept))
    return told


# The words leave out which place it is: Python refuses to write out a number of very many figures.
def number_of(where, kept):
    if where not in kept:
        raise NoValue("a row uses a place or a spot that has no number yet")
    return kept[where]


def number_coming_in(numbers, taken):
    if taken == len(numbers):
        raise NoInput(f"a row takes a number, and all {taken} that came in are taken")
    return numbers[taken]


def reckoned(kind, one, two):
    if kind == "add":
        return one + two
    if kind == "sub":
        return one - two
    return one * two
