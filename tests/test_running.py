import unittest

from fewplaces.errors import NoInput, NoValue, PlaceError
from fewplaces.running import told_by, told_on_places
from tests.cases import REFUSED, every_short_list_of_rows, leaves_as_they_were, refused_by_the_words

GREAT = 10 ** 32 - 1
# Told alike with names and on places: 0, 1 and 2 stand for three of either.
ALIKE = {
    "no row": ([], [], []),
    "no row tells": ([("set", 0, 1)], [], []),
    "set": ([("set", 0, 5), ("tell", 0)], [], [5]),
    "set nought": ([("set", 0, 0), ("tell", 0)], [], [0]),
    "set a great number": ([("set", 0, GREAT), ("tell", 0)], [], [GREAT]),
    "set a great number below nought": ([("set", 0, -GREAT), ("tell", 0)], [], [-GREAT]),
    "take": ([("take", 0), ("tell", 0)], [7], [7]),
    "take nought": ([("take", 0), ("tell", 0)], [0], [0]),
    "take in order": ([("take", 0), ("take", 1), ("tell", 1), ("tell", 0)], [7, -8], [-8, 7]),
    "take the same anew": ([("take", 0), ("take", 0), ("tell", 0)], [7, 8], [8]),
    "take great numbers": ([("take", 0), ("take", 1), ("tell", 0), ("tell", 1)], [GREAT, -GREAT], [GREAT, -GREAT]),
    "more come in than are taken": ([("take", 0), ("tell", 0)], [7, 8, 9], [7]),
    "none is taken": ([("set", 0, 1), ("tell", 0)], [7], [1]),
    "add": ([("set", 0, 5), ("set", 1, -8), ("add", 2, 0, 1), ("tell", 2)], [], [-3]),
    "sub": ([("set", 0, 5), ("set", 1, -8), ("sub", 2, 0, 1), ("tell", 2)], [], [13]),
    "sub the other way": ([("set", 0, 5), ("set", 1, -8), ("sub", 2, 1, 0), ("tell", 2)], [], [-13]),
    "mul": ([("set", 0, 5), ("set", 1, -8), ("mul", 2, 0, 1), ("tell", 2)], [], [-40]),
    "reckoning leaves what it uses": (
        [("set", 0, 5), ("set", 1, -8), ("mul", 2, 0, 1), ("tell", 0), ("tell", 1)], [], [5, -8]
    ),
    "add all three the same": ([("set", 0, 6), ("add", 0, 0, 0), ("tell", 0)], [], [12]),
    "sub all three the same": ([("set", 0, 6), ("sub", 0, 0, 0), ("tell", 0)], [], [0]),
    "mul all three the same": ([("set", 0, 6), ("mul", 0, 0, 0), ("tell", 0)], [], [36]),
    "twice the same used": ([("set", 0, 6), ("mul", 1, 0, 0), ("tell", 1), ("tell", 0)], [], [36, 6]),
    "written over the first used": ([("set", 0, 5), ("set", 1, 3), ("sub", 0, 0, 1), ("tell", 0)], [], [2]),
    "written over the second used": ([("set", 0, 5), ("set", 1, 3), ("sub", 1, 0, 1), ("tell", 1)], [], [2]),
    "written anew": ([("set", 0, 5), ("tell", 0), ("set", 0, 6), ("tell", 0)], [], [5, 6]),
    "written anew, the sum stays": (
        [("set", 0, 5), ("add", 1, 0, 0), ("set", 0, 6), ("tell", 1), ("tell", 0)], [], [10, 6]
    ),
    "told twice": ([("set", 0, 5), ("tell", 0), ("tell", 0)], [], [5, 5]),
    "a sum of great numbers": ([("take", 0), ("add", 0, 0, 0), ("tell", 0)], [-GREAT], [-2 * GREAT]),
    "a product of great numbers": (
        [("take", 0), ("take", 1), ("mul", 2, 0, 1), ("mul", 2, 2, 2), ("tell", 2)], [GREAT, -GREAT], [GREAT ** 4]
    ),
}
NO_INPUT = {
    "none comes in": ([("take", 0)], []),
    "one fewer": ([("take", 0), ("take", 1)], [7]),
    "the last row": ([("take", 0), ("take", 0), ("tell", 0), ("take", 0)], [7, 8]),
    "what it takes is never used": ([("set", 0, 1), ("tell", 0), ("take", 1)], []),
    "behind a tell": ([("set", 0, 1), ("tell", 0), ("take", 0), ("tell", 0)], []),
}


def with_names(rows, names):
    return [row[:1] + named_parts(row, names) for row in rows]


def named_parts(row, names):
    if row[0] == "set":
        return (names[row[1]], row[2])
    return tuple(names[part] for part in row[1:])


def each_naming(rows):
    for names in (("a", "b", "c"), ("", " ", "  "), ("tell", "set", "shelve"), ("0", "00", "\u00e4\n")):
        yield told_by, with_names(rows, names)
    for places in ((0, 1, 2), (7, 3, 99), (10 ** 32, 0, 10 ** 5000)):
        yield told_on_places, with_names(rows, places)


class Alike(unittest.TestCase):
    def test_what_is_told(self):
        for words, (rows, numbers, told) in ALIKE.items():
            for asked, named in each_naming(rows):
                with self.subTest(words, asked=asked.__name__):
                    answer = asked(named, numbers)
                    self.assertIs(type(answer), list)
                    self.assertTrue(answer == told)

    def test_no_input(self):
        for words, (rows, numbers) in NO_INPUT.items():
            for asked, named in each_naming(rows):
                for error in (NoInput, PlaceError, ValueError):
                    with self.subTest(words, asked=asked.__name__, error=error.__name__):
                        self.assertRaises(error, asked, named, numbers)

    def test_one_number_fewer_is_no_input(self):
        rows = [("take", 0), ("take", 1), ("add", 0, 0, 1), ("take", 2), ("mul", 0, 0, 2), ("tell", 0)]
        for asked, named in each_naming(rows):
            self.assertEqual(asked(named, [2, 3, 4]), [20])
            for count in range(3):
                self.assertRaises(NoInput, asked, named, [2, 3, 4][:count])

    def test_many_rows(self):
        rows = [("set", 0, 1)] + [("add", 0, 0, 0)] * 150 + [("tell", 0)]
        for asked, named in each_naming(rows):
            self.assertEqual(asked(named, []), [2 ** 150])


class ToldBy(unittest.TestCase):
    def test_no_value(self):
        for words, rows in REFUSED.items():
            for error in (NoValue, PlaceError, ValueError):
                with self.subTest(words, error=error.__name__):
                    self.assertRaises(error, told_by, rows, [1, 2, 3])

    def test_no_value_goes_before_no_input(self):
        self.assertRaises(NoValue, told_by, [("take", "a"), ("tell", "b")], [])
        self.assertRaises(NoValue, told_by, [("take", "a"), ("add", "b", "a", "b"), ("tell", "a")], [])
        self.assertRaises(NoValue, told_by, [("tell", "a"), ("take", "a")], [])

    def test_every_short_list_of_rows(self):
        for rows in every_short_list_of_rows(("", "a"), 3):
            if refused_by_the_words(rows):
                self.assertRaises(NoValue, told_by, rows, [])
            else:
                told_by(rows, [])


class ToldOnPlaces(unittest.TestCase):
    def test_shelve_and_fetch(self):
        rows = [("set", 0, 5), ("shelve", 0, 0), ("set", 0, 6), ("fetch", 1, 0), ("tell", 0), ("tell", 1)]
        self.assertEqual(told_on_places(rows, []), [6, 5])

    def test_the_number_lies_at_the_place_and_on_the_spot_at_once(self):
        rows = [("take", 3), ("shelve", 8, 3), ("tell", 3), ("fetch", 4, 8), ("tell", 4), ("tell", 3), ("fetch", 5, 8)]
        self.assertEqual(told_on_places(rows + [("tell", 5)], [-9]), [-9, -9, -9, -9])

    def test_a_place_overwritten_by_a_fetch(self):
        rows = [("set", 0, 5), ("shelve", 1, 0), ("set", 2, 6), ("fetch", 2, 1), ("tell", 2)]
        self.assertEqual(told_on_places(rows, []), [5])

    def test_a_place_overwritten_leaves_the_spot(self):
        for row in (("set", 0, 7), ("take", 0), ("add", 0, 0, 0)):
            rows = [("set", 0, 5), ("shelve", 0, 0), row, ("fetch", 0, 0), ("tell", 0)]
            self.assertEqual(told_on_places(rows, [8]), [5])

    def test_a_spot_overwritten(self):
        rows = [("set", 0, 5), ("shelve", 2, 0), ("set", 1, 6), ("shelve", 2, 1), ("fetch", 0, 2), ("tell", 0)]
        self.assertEqual(told_on_places(rows, []), [6])

    def test_a_fetched_number_overwritten_leaves_the_spot(self):
        rows = [("set", 0, 5), ("shelve", 0, 0), ("fetch", 1, 0), ("set", 1, 6), ("fetch", 2, 0), ("tell", 2)]
        self.assertEqual(told_on_places(rows, []), [5])

    def test_places_and_spots_of_the_same_number_are_apart(self):
        rows = [("set", 0, 5), ("shelve", 1, 0), ("set", 1, 6), ("fetch", 2, 1), ("tell", 2), ("tell", 1)]
        self.assertEqual(told_on_places(rows, []), [5, 6])

    def test_great_places_and_spots(self):
        for great in (100, 2 ** 64, GREAT, 10 ** 5000):
            rows = [("take", great), ("shelve", great + 1, great), ("set", great, 1), ("fetch", great - 1, great + 1)]
            rows += [("sub", 0, great - 1, great), ("tell", 0)]
            self.assertEqual(told_on_places(rows, [-4]), [-5])
            self.assertRaises(NoValue, told_on_places, rows + [("tell", great + 1)], [-4])
            self.assertRaises(NoValue, told_on_places, rows + [("fetch", 0, great)], [-4])

    def test_great_numbers_on_the_shelf(self):
        rows = [("take", 0), ("shelve", 0, 0), ("set", 0, GREAT), ("fetch", 1, 0), ("add", 0, 0, 1), ("tell", 0)]
        self.assertEqual(told_on_places(rows, [-GREAT]), [0])

    def test_no_value(self):
        refused = [
            [("tell", 0)],
            [("set", 0, 1), ("tell", 1)],
            [("set", 0, 1), ("add", 2, 0, 1)],
            [("set", 0, 1), ("sub", 2, 1, 0)],
            [("set", 0, 1), ("mul", 1, 1, 0)],
            [("mul", 0, 0, 0)],
            [("shelve", 0, 0)],
            [("set", 0, 1), ("shelve", 0, 1)],
            [("fetch", 0, 0)],
            [("set", 0, 1), ("fetch", 1, 0)],
            [("set", 0, 1), ("shelve", 1, 0), ("fetch", 1, 0)],
            [("set", 0, 1), ("shelve", 1, 0), ("tell", 1)],
            [("set", 0, 1), ("shelve", 0, 0), ("fetch", 1, 0), ("shelve", 1, 2)],
            [("tell", 0), ("set", 0, 1)],
        ]
        for rows in refused:
            for error in (NoValue, PlaceError, ValueError):
                with self.subTest(rows=rows, error=error.__name__):
                    self.assertRaises(error, told_on_places, rows, [])

    def test_whichever_refusal_is_come_to_first(self):
        for unwritten in (("tell", 1), ("add", 0, 0, 1), ("shelve", 0, 1), ("fetch", 1, 0)):
            with self.subTest(unwritten=unwritten):
                self.assertRaises(NoValue, told_on_places, [("set", 0, 1), unwritten, ("take", 1)], [])
                self.assertRaises(NoInput, told_on_places, [("set", 0, 1), ("take", 1), unwritten], [])
                self.assertRaises(NoInput, told_on_places, [("set", 0, 1), ("take", 0), unwritten], [])


class HandedIn(unittest.TestCase):
    def test_rows_and_numbers_stay_as_they_were(self):
        for rows, numbers, told in ALIKE.values():
            for asked, named in each_naming(rows):
                self.check_unchanged(asked, named, numbers)
        rows = [("take", 0), ("shelve", 0, 0), ("fetch", 1, 0), ("mul", 0, 0, 1), ("tell", 0)]
        self.check_unchanged(told_on_places, rows, [5, 6])

    def test_they_stay_behind_a_refusal(self):
        for rows, numbers in NO_INPUT.values():
            for asked, named in each_naming(rows):
                self.check_unchanged(asked, named, numbers)
        for rows in REFUSED.values():
            self.check_unchanged(told_by, rows, [1, 2])
        self.check_unchanged(told_on_places, [("take", 0), ("fetch", 0, 0)], [1, 2])

    def check_unchanged(self, asked, rows, numbers):
        self.assertTrue(leaves_as_they_were(asked, rows, numbers))

    def test_the_same_is_told_again_whatever_became_of_the_answer(self):
        for asked, named in each_naming([("take", 0), ("tell", 0)]):
            numbers = [7]
            asked(named, numbers).clear()
            self.assertEqual(asked(named, numbers), [7])


if __name__ == "__main__":
    unittest.main()
