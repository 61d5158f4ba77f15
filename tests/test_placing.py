import itertools
import unittest

from fewplaces.errors import NoInput, NoValue, PlaceError, TooFew
from fewplaces.living import living, most_at_once
from fewplaces.placing import placed, walk_of
from fewplaces.running import told_by, told_on_places
from tests.cases import (
    REFUSED,
    drawn_rows,
    every_short_list_of_rows,
    leaves_as_they_were,
    places_needed_by_the_words,
    refused_by_the_words,
)

GREAT = 10 ** 32 - 1
BOTH = (placed, walk_of)
LISTS = {
    "no row": [],
    "set alone": [("set", "a", 1)],
    "take alone": [("take", "")],
    "set and tell": [("set", "", -5), ("tell", "")],
    "written and never used": [("set", "a", 1), ("set", "b", 2), ("tell", "a")],
    "written and never used beside two": [
        ("take", "a"), ("take", "b"), ("set", "c", 3), ("tell", "a"), ("set", "c", 4), ("tell", "b")
    ],
    "the sum goes over what is used last": [("take", "a"), ("take", "b"), ("sub", "c", "a", "b"), ("tell", "c")],
    "both used ones stay needed": [
        ("take", "a"), ("take", "b"), ("sub", "c", "a", "b"), ("tell", "a"), ("tell", "b"), ("tell", "c")
    ],
    "the one used stays needed": [("take", "a"), ("mul", "b", "a", "a"), ("tell", "a"), ("tell", "b")],
    "the one used stays needed, the sum is not": [("take", "a"), ("mul", "b", "a", "a"), ("tell", "a")],
    "all three the same": [
        ("take", "a"), ("add", "a", "a", "a"), ("sub", "b", "a", "a"), ("mul", "a", "a", "a"), ("tell", "a"),
        ("tell", "b"),
    ],
    "written anew behind its shelving": [
        ("take", "a"), ("take", "b"), ("take", "c"), ("tell", "a"), ("tell", "b"), ("tell", "c"),
        ("take", "a"), ("take", "b"), ("take", "c"), ("tell", "c"), ("tell", "b"), ("tell", "a"),
    ],
    "written anew by a row that uses it": [
        ("take", "a"), ("take", "b"), ("take", "c"), ("add", "a", "a", "b"), ("sub", "b", "c", "b"),
        ("mul", "c", "c", "a"), ("sub", "a", "a", "c"), ("tell", "a"), ("tell", "b"), ("tell", "c"),
    ],
    "fetched, and shelved no second time": [
        ("take", "a"), ("take", "b"), ("take", "c"), ("sub", "d", "a", "b"), ("sub", "e", "b", "c"),
        ("sub", "f", "c", "a"), ("tell", "d"), ("tell", "e"), ("tell", "f"), ("tell", "c"), ("tell", "b"),
        ("tell", "a"),
    ],
    "both used ones lie on the shelf": [
        ("take", "a"), ("take", "b"), ("take", "c"), ("take", "d"), ("sub", "e", "c", "d"), ("tell", "e"),
        ("sub", "e", "a", "b"), ("tell", "e"), ("sub", "e", "d", "a"), ("tell", "e"), ("sub", "", "c", "b"),
        ("tell", ""),
    ],
    "great numbers": [
        ("set", "a", GREAT), ("set", "b", -GREAT), ("take", "c"), ("mul", "d", "a", "c"), ("sub", "d", "d", "b"),
        ("tell", "d"), ("tell", "a"), ("tell", "b"), ("tell", "c"),
    ],
    "names called like kinds": [
        ("set", "shelve", 1), ("take", "fetch"), ("take", "tell"), ("sub", "set", "fetch", "tell"), ("tell", "shelve"),
        ("tell", "fetch"), ("tell", "tell"), ("tell", "set"),
    ],
    "the same number under all names": [("set", name, 7) for name in "abcd"] + [("tell", name) for name in "bdca"],
    "a hundred and ten rows": [("take", str(number)) for number in range(55)] + [
        ("tell", str(number * 7 % 55)) for number in range(55)
    ],
    "somewhat more rows": [("take", str(number)) for number in range(60)] + [
        ("add", "0", "0", str(number)) for number in range(60)
    ] + [("tell", str(number)) for number in range(60)],
}


def fewest(rows):
    return max((places_needed_by_the_words(row) for row in rows), default=0)


def at_once(rows):
    return len(most_at_once(rows)[1])


def takes(rows):
    return sum(row[0] == "take" for row in rows)


def coming_in(count):
    yield list(range(1, count + 1))
    yield [(-3) ** number for number in range(count)]
    yield [(GREAT - number) * (-1) ** number for number in range(count)]
    yield [0] * count


# Both sorts of rows done side by side. A number is told from all others by the row that wrote it, so that what
# holds here holds for all numbers that come in.
class SideBySide:
    def __init__(self, case, rows, places):
        self.case = case
        self.rows = rows
        self.places = places
        self.of_name = {}
        self.at_place = {}
        self.on_spot = {}

    def check(self):
        made = placed(self.rows, self.places)
        walk = walk_of(self.rows, self.places)
        needed = living(self.rows)
        self.check_kinds(made, walk)
        done = 0
        for number, row in enumerate(self.rows):
            count, lying = walk[number]
            self.case.assertGreater(count, done)
            for moving in made[done:count - 1]:
                self.move(moving)
            self.do(number, row, made[count - 1])
            self.check_lying(lying, needed[number])
            done = count
        self.case.assertEqual(done, len(made))

    def check_kinds(self, made, walk):
        self.case.assertIs(type(made), list)
        self.case.assertTrue(all(type(row) is tuple for row in made))
        self.case.assertIs(type(walk), list)
        self.case.assertEqual(len(walk), len(self.rows))
        for pair in walk:
            self.case.assertEqual((type(pair), len(pair), type(pair[0]), type(pair[1])), (tuple, 2, int, list))
            self.case.assertTrue(all(type(lying) is tuple and len(lying) == 3 for lying in pair[1]))

    def check_place(self, place):
        self.case.assertIs(type(place), int)
        self.case.assertIn(place, range(self.places))

    def check_spot(self, spot):
        self.case.assertIs(type(spot), int)
        self.case.assertGreaterEqual(spot, 0)

    def move(self, moving):
        self.case.assertIn(moving[0], ("shelve", "fetch"))
        self.case.assertEqual(len(moving), 3)
        if moving[0] == "shelve":
            self.check_spot(moving[1])
            self.check_place(moving[2])
            self.on_spot[moving[1]] = self.at_place[moving[2]]
        else:
            self.check_place(moving[1])
            self.check_spot(moving[2])
            self.at_place[moving[1]] = self.on_spot[moving[2]]

    def do(self, number, row, own):
        self.case.assertEqual((own[0], len(own)), (row[0], len(row)))
        self.check_place(own[1])
        if row[0] == "set":
            self.case.assertEqual(own[2], row[2])
        used = slice(1, 2) if row[0] == "tell" else slice(2, 4) if row[0] in ("add", "sub", "mul") else slice(0)
        for name, place in zip(row[used], own[used]):
            self.check_place(place)
            self.case.assertEqual(self.at_place[place], self.of_name[name])
        if row[0] != "tell":
            self.of_name[row[1]] = number
            self.at_place[own[1]] = number

    def check_lying(self, lying, needed):
        self.case.assertEqual([name for name, place, spot in lying], needed)
        for name, place, spot in lying:
            self.case.assertFalse(place is None and spot is None)
            self.check_where(self.of_name[name], place, self.at_place)
            self.check_where(self.of_name[name], spot, self.on_spot)
            if place is not None:
                self.check_place(place)
            if spot is not None:
                self.check_spot(spot)
        for shared in ([place for name, place, spot in lying], [spot for name, place, spot in lying]):
            told = [where for where in shared if where is not None]
            self.case.assertEqual(len(told), len(set(told)))

    # None is told just where the number lies at none.
    def check_where(self, written_by, where, kept):
        if where is None:
            self.case.assertNotIn(written_by, kept.values())
        else:
            self.case.assertEqual(kept[where], written_by)


class Placed(unittest.TestCase):
    def check_all(self, rows, most_places):
        for places in range(fewest(rows), most_places + 1):
            SideBySide(self, rows, places).check()
            self.check_shelf(rows, places)

    # Point 9, both ways.
    def check_shelf(self, rows, places):
        kinds = [row[0] for row in placed(rows, places)]
        if places < at_once(rows):
            self.assertIn("shelve", kinds)
        else:
            self.assertEqual(kinds, [row[0] for row in rows])

    def check_told(self, rows, places):
        made = placed(rows, places)
        self.assertEqual(takes(made), takes(rows))
        for numbers in coming_in(takes(rows)):
            self.assertTrue(told_on_places(made, numbers) == told_by(rows, numbers))
            if numbers:
                self.assertRaises(NoInput, told_on_places, made, numbers[:-1])

    def test_side_by_side(self):
        for words, rows in LISTS.items():
            with self.subTest(words):
                self.check_all(rows, at_once(rows) + 3)

    def test_the_same_is_told(self):
        for words, rows in LISTS.items():
            with self.subTest(words):
                for places in range(fewest(rows), at_once(rows) + 3):
                    self.check_told(rows, places)

    def test_long_lists_side_by_side(self):
        for seed in range(60):
            rows = drawn_rows(seed, 110)
            with self.subTest(seed=seed):
                self.check_all(rows, at_once(rows) + 2)

    def test_the_same_is_told_by_long_lists(self):
        for seed in range(60):
            rows = drawn_rows(seed, 110)
            with self.subTest(seed=seed):
                for places in range(fewest(rows), at_once(rows) + 2):
                    self.check_told(rows, places)

    def test_every_short_list_of_rows(self):
        lists = itertools.chain(every_short_list_of_rows(("", "a"), 4), every_short_list_of_rows(("", "a", "b"), 3))
        for rows in lists:
            if not refused_by_the_words(rows):
                self.check_all(rows, at_once(rows) + 1)

    # In lists as short as above hardly a number is fetched: here three are there from the start.
    def test_three_names_and_every_two_rows_behind_them(self):
        first = [("take", "a"), ("take", "b"), ("take", "c")]
        last = [("tell", "c"), ("tell", "a"), ("tell", "b")]
        for between in every_short_list_of_rows(("a", "b", "c"), 2):
            self.check_all(first + between + last, 4)

    def test_more_places_than_a_hundred(self):
        for rows in LISTS.values():
            for places in (100, 101, 10 ** 32):
                SideBySide(self, rows, places).check()
                self.check_shelf(rows, places)

    def test_a_hundred_names_at_once(self):
        rows = [("set", f"n{number}", number) for number in range(101)]
        rows += [("tell", f"n{number}") for number in range(101)]
        for places in (1, 2, 50, 99, 100, 101, 102):
            SideBySide(self, rows, places).check()
            self.check_shelf(rows, places)
            self.check_told(rows, places)

    def test_without_the_shelf_word_by_word(self):
        self.assertEqual(placed([("set", "a", -4), ("tell", "a")], 1), [("set", 0, -4), ("tell", 0)])
        rows = [("take", "a"), ("add", "a", "a", "a"), ("sub", "b", "a", "a"), ("mul", "b", "b", "b"), ("tell", "b")]
        self.assertEqual(
            placed(rows, 1), [("take", 0), ("add", 0, 0, 0), ("sub", 0, 0, 0), ("mul", 0, 0, 0), ("tell", 0)]
        )

    def test_one_place_and_two_names(self):
        rows = [("set", "a", 1), ("set", "b", 2), ("tell", "a"), ("tell", "b")]
        kinds = [row[0] for row in placed(rows, 1)]
        self.assertEqual([kind for kind in kinds if kind not in ("shelve", "fetch")], ["set", "set", "tell", "tell"])
        self.assertLess(kinds.index("shelve"), [at for at, kind in enumerate(kinds) if kind == "set"][1])
        self.assertIn("fetch", kinds)

    # The document leaves free which number is shelved; this holds the choice that keeps the shelf little used.
    def test_the_name_used_last_is_shelved(self):
        taken = [("take", "a"), ("take", "b")]
        for rows, shelved in (
            (taken + [("take", "c"), ("tell", "a"), ("tell", "b"), ("tell", "a"), ("tell", "c")], "b"),
            (taken + [("tell", "a"), ("take", "c"), ("tell", "b"), ("tell", "a"), ("tell", "c")], "a"),
            (taken + [("add", "c", "a", "a"), ("tell", "b"), ("tell", "a"), ("tell", "c")], "a"),
        ):
            lying = next(lying for count, lying in walk_of(rows, 2) if len(lying) == 3)
            self.assertEqual([name for name, place, spot in lying if place is None], [shelved])

    def test_a_number_written_and_never_used_needs_a_place(self):
        rows = [("set", "a", 1), ("set", "b", 2), ("tell", "a")]
        self.assertIn("shelve", [row[0] for row in placed(rows, 1)])
        self.assertEqual(told_on_places(placed(rows, 1), []), [1])
        self.assertEqual([row[0] for row in placed(rows, 2)], ["set", "set", "tell"])


class WalkOf(unittest.TestCase):
    def test_no_row(self):
        for places in (0, 1, 100):
            self.assertEqual(walk_of([], places), [])
            self.assertEqual(placed([], places), [])

    def test_no_name_needed(self):
        self.assertEqual(walk_of([("set", "a", 1)], 1), [(1, [])])
        self.assertEqual(walk_of([("take", "a"), ("take", "a"), ("take", "b")], 3), [(1, []), (2, []), (3, [])])

    def test_one_place(self):
        rows = [("set", "a", 1), ("set", "b", 2), ("tell", "a"), ("tell", "a"), ("tell", "b")]
        walk = walk_of(rows, 1)
        self.assertEqual(walk[0], (1, [("a", 0, None)]))
        self.assertEqual(walk[-1], (len(placed(rows, 1)), []))
        self.assertEqual([count for count, lying in walk][:2], [1, 3])
        self.assertEqual([name for name, place, spot in walk[1][1]], ["a", "b"])
        self.assertEqual([place for name, place, spot in walk[1][1]], [None, 0])

    def test_a_fetched_number_lies_at_a_place_and_on_a_spot(self):
        rows = [("set", "a", 1), ("set", "b", 2), ("tell", "a"), ("tell", "a"), ("tell", "b")]
        name, place, spot = walk_of(rows, 1)[2][1][0]
        self.assertEqual((name, place), ("a", 0))
        self.assertIsNotNone(spot)

    def test_a_name_written_anew_has_left_its_spot(self):
        rows = [("set", "a", 1), ("set", "b", 2), ("tell", "b"), ("add", "a", "a", "a"), ("tell", "a")]
        self.assertEqual(walk_of(rows, 1)[3][1], [("a", 0, None)])

    def test_names_are_sorted(self):
        names = ["b", "a ", "", "B", "a", "10", "9", "\u00e4"]
        rows = [("take", name) for name in names] + [("tell", name) for name in names]
        for places in range(1, 10):
            lying = walk_of(rows, places)[7][1]
            self.assertEqual([name for name, place, spot in lying], sorted(names))

    def test_the_answers_are_told_anew_each_time(self):
        rows = LISTS["fetched, and shelved no second time"]
        made = placed(rows, 2)
        walk = walk_of(rows, 2)
        placed(rows, 2).clear()
        walk_of(rows, 2)[0][1].clear()
        self.assertEqual(placed(rows, 2), made)
        self.assertEqual(walk_of(rows, 2), walk)


class Refused(unittest.TestCase):
    def check_refused(self, rows, places, refusal):
        for asked in BOTH:
            for error in (refusal, PlaceError, ValueError):
                with self.subTest(rows=rows, places=places, asked=asked.__name__, error=error.__name__):
                    self.assertRaises(error, asked, rows, places)

    def test_no_value_goes_before_too_few(self):
        for rows in REFUSED.values():
            for places in (0, 1, 2, 100):
                self.check_refused(rows, places, NoValue)

    def test_no_value_goes_before_too_few_of_an_earlier_row(self):
        rows = [("set", "a", 1), ("set", "b", 2), ("add", "a", "a", "b"), ("tell", "c")]
        for places in (0, 1, 2):
            self.check_refused(rows, places, NoValue)

    def test_nought_places(self):
        for rows in ([("set", "a", 1)], [("take", "a")], [("take", "a"), ("mul", "a", "a", "a"), ("tell", "a")]):
            self.check_refused(rows, 0, TooFew)
            for asked in BOTH:
                asked(rows, 1)

    def test_one_place_where_a_row_uses_two_names(self):
        for kind in ("add", "sub", "mul"):
            for row in ((kind, "c", "a", "b"), (kind, "a", "a", "b"), (kind, "a", "b", "a"), (kind, "b", "a", "b")):
                rows = [("set", "a", 1), ("take", "b"), row]
                self.check_refused(rows, 0, TooFew)
                self.check_refused(rows, 1, TooFew)
                for asked in BOTH:
                    asked(rows, 2)

    def test_one_place_where_a_row_uses_one_name_twice(self):
        rows = [("set", "a", 1), ("take", "b"), ("sub", "c", "a", "a"), ("mul", "c", "b", "b"), ("tell", "a")]
        for asked in BOTH:
            asked(rows, 1)

    def test_just_where_there_are_fewer_than_a_row_needs(self):
        for rows in LISTS.values():
            for places in range(fewest(rows)):
                self.check_refused(rows, places, TooFew)

    def test_every_short_list_of_rows(self):
        for rows in every_short_list_of_rows(("", "a"), 3):
            for places in range(3):
                for asked in BOTH:
                    if refused_by_the_words(rows):
                        self.assertRaises(NoValue, asked, rows, places)
                    elif places < fewest(rows):
                        self.assertRaises(TooFew, asked, rows, places)
                    else:
                        asked(rows, places)


class HandedIn(unittest.TestCase):
    def test_the_rows_stay_as_they_were(self):
        for rows in LISTS.values():
            for places in range(4):
                self.check_unchanged(rows, places)

    def test_refused_rows_stay_as_they_were(self):
        for rows in REFUSED.values():
            self.check_unchanged(rows, 0)
            self.check_unchanged(rows, 5)

    def check_unchanged(self, rows, places):
        for asked in BOTH:
            self.assertTrue(leaves_as_they_were(asked, rows, places), rows)


if __name__ == "__main__":
    unittest.main()
