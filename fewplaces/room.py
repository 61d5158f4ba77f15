"""The room for numbers: how many places a row needs by itself, and what lies at places and on the shelf."""

from fewplaces.errors import TooFew
from fewplaces.rows import names_used


# A row that uses no name writes one, so none does without a place.
def places_needed(row):
    return max(1, len(names_used(row)))


def refuse_too_few(rows, places):
    for number, row in enumerate(rows):
        if places_needed(row) > places:
            raise TooFew(f"row {number} needs more places by itself than there are")


# Where the numbers of the needed names lie, and the rows that have brought them there.
class Room:
    def __init__(self, places):
        self.places = places
        self.place_of = {}
        self.spot_of = {}
        self.made = []

    def lying(self, name):
        return (name, self.place_of.get(name), self.spot_of.get(name))

    def fetch(self, name, place):
        self.place_of[name] = place
        self.made.append(("fetch", place, self.spot_of[name]))

    def shelve(self, name):
        # A number that was fetched still lies on its spot as well.
        if name not in self.spot_of:
            self.spot_of[name] = lowest_free(list(self.spot_of.values()))
            self.made.append(("shelve", self.spot_of[name], self.place_of[name]))

    # A place where no number lies that is kept; none of the names in `staying` is put out for it.
    def empty_place(self, staying, later):
        place = lowest_free(list(self.place_of.values()))
        if place < self.places:
            return place
        leaving = latest_used([name for name in self.place_of if name not in staying], later)
        self.shelve(leaving)
        return self.place_of.pop(leaving)

    def keep_only(self, names):
        self.place_of = narrowed(self.place_of, names)
        self.spot_of = narrowed(self.spot_of, names)


def lowest_free(taken):
    number = 0
    while number in taken:
        number += 1
    return number


# The name that is used last is the one that can do longest without a place.
def latest_used(names, later):
    return max(names, key=lambda name: first_use(name, later))


def first_use(name, later):
    for number, row in enumerate(later):
        if name in names_used(row):
            return number
    return len(later)


def narrowed(where, names):
    kept = {}
    for name in names:
        if name in where:
            kept[name] = where[name]
    return kept
