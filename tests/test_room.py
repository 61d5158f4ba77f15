import unittest

from fewplaces.errors import PlaceError, TooFew
from fewplaces.room import Room, latest_used, places_needed, refuse_too_few

NEEDED = {
    ("set", "a", 1): 1,
    ("take", ""): 1,
    ("tell", "a"): 1,
    ("add", "a", "b", "c"): 2,
    ("sub", "a", "a", "b"): 2,
    ("mul", "a", "b", "a"): 2,
    ("add", "a", "", " "): 2,
    ("sub", "a", "b", "b"): 1,
    ("mul", "a", "a", "a"): 1,
}


class PlacesNeeded(unittest.TestCase):
    def test_each_kind_of_row(self):
        for row, needed in NEEDED.items():
            self.assertEqual(places_needed(row), needed, row)

    def test_fewer_are_refused(self):
        for row, needed in NEEDED.items():
            for places in range(4):
                if places < needed:
                    for error in (TooFew, PlaceError, ValueError):
                        self.assertRaises(error, refuse_too_few, [row], places)
                else:
                    refuse_too_few([row], places)

    def test_one_row_of_many_is_enough(self):
        rows = [("set", "a", 1), ("set", "b", 2), ("add", "a", "a", "b"), ("tell", "a")]
        self.assertRaises(TooFew, refuse_too_few, rows, 1)
        refuse_too_few(rows, 2)

    def test_no_row_needs_no_place(self):
        refuse_too_few([], 0)


class Lying(unittest.TestCase):
    def test_the_lowest_place_comes_first(self):
        room = Room(2)
        self.assertEqual(room.empty_place([], []), 0)
        room.place_of["a"] = 0
        self.assertEqual(room.empty_place([], []), 1)
        self.assertEqual(room.made, [])

    def test_the_name_used_last_leaves(self):
        room = self.full_room()
        later = [("tell", "a"), ("tell", "b"), ("tell", "c")]
        self.assertEqual(room.empty_place([], later), 2)
        self.assertEqual(room.made, [("shelve", 0, 2)])
        self.assertEqual([room.lying(name) for name in "abc"], [("a", 0, None), ("b", 1, None), ("c", None, 0)])

    def test_a_name_never_used_again_leaves_first(self):
        later = [("tell", "b"), ("mul", "d", "b", "a"), ("tell", "d")]
        self.assertEqual(latest_used(["a", "b"], later), "a")
        self.assertEqual(latest_used(["a", "c", "b"], later), "c")

    def test_a_name_that_stays_does_not_leave(self):
        room = self.full_room()
        later = [("tell", "a"), ("tell", "b"), ("tell", "c")]
        self.assertEqual(room.empty_place(["c", "b"], later), 0)
        self.assertEqual(room.lying("a"), ("a", None, 0))

    def test_a_fetched_number_is_not_shelved_again(self):
        room = self.full_room()
        later = [("tell", "a"), ("tell", "b"), ("tell", "c")]
        self.assertEqual(room.empty_place([], later), 2)
        room.fetch("c", 2)
        self.assertEqual(room.lying("c"), ("c", 2, 0))
        self.assertEqual(room.empty_place([], later), 2)
        self.assertEqual(room.made, [("shelve", 0, 2), ("fetch", 2, 0)])

    def test_only_kept_names_lie_anywhere(self):
        room = self.full_room()
        room.shelve("a")
        room.shelve("b")
        room.keep_only(["b", "d"])
        self.assertEqual(room.lying("b"), ("b", 1, 1))
        for name in "acd":
            self.assertEqual(room.lying(name), (name, None, None))

    def full_room(self):
        room = Room(3)
        for place, name in enumerate("abc"):
            room.place_of[name] = place
        return room


if __name__ == "__main__":
    unittest.main()
