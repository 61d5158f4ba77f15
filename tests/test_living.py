import unittest

from fewplaces.errors import NoValue, PlaceError
from fewplaces.living import living, most_at_once
from tests.cases import (
    REFUSED,
    every_short_list_of_rows,
    leaves_as_they_were,
    living_by_the_words,
    most_by_the_words,
    refused_by_the_words,
)


class Living(unittest.TestCase):
    def test_no_row(self):
        self.assertEqual(living([]), [])

    def test_one_row(self):
        self.assertEqual(living([("set", "a", 5)]), [[]])
        self.assertEqual(living([("take", "a")]), [[]])

    def test_needed_from_the_write_to_the_last_use(self):
        rows = [("take", "a"), ("set", "b", 2), ("mul", "c", "a", "b"), ("tell", "c"), ("tell", "a")]
        self.assertEqual(living(rows), [["a"], ["a", "b"], ["a", "c"], ["a"], []])

    def test_each_reckoning_row_uses_both_names(self):
        for kind in ("add", "sub", "mul"):
            with self.subTest(kind=kind):
                rows = [("take", "b"), ("take", "a"), (kind, "c", "b", "a"), ("tell", "c")]
                self.assertEqual(living(rows), [["b"], ["a", "b"], ["c"], []])

    def test_written_anew_between_write_and_use(self):
        for anew in (("set", "a", 2), ("take", "a"), ("add", "a", "b", "b")):
            with self.subTest(anew=anew):
                rows = [("set", "b", 0), ("set", "a", 1), anew, ("tell", "a"), ("tell", "b")]
                self.assertEqual(living(rows), [["b"], ["b"], ["a", "b"], ["b"], []])

    def test_written_anew_behind_a_use(self):
        rows = [("set", "a", 1), ("tell", "a"), ("set", "b", 3), ("set", "a", 2), ("tell", "a"), ("tell", "b")]
        self.assertEqual(living(rows), [["a"], [], ["b"], ["a", "b"], ["b"], []])

    def test_a_row_that_uses_and_writes_the_same_name(self):
        for kind in ("add", "sub", "mul"):
            for row in ((kind, "a", "a", "b"), (kind, "a", "b", "a")):
                with self.subTest(row=row):
                    rows = [("set", "a", 1), ("set", "b", 2), row, ("tell", "a")]
                    self.assertEqual(living(rows), [["a"], ["a", "b"], ["a"], []])

    def test_a_row_that_uses_and_writes_a_name_never_used_behind_it(self):
        rows = [("set", "a", 1), ("set", "b", 2), ("sub", "a", "a", "b"), ("tell", "b")]
        self.assertEqual(living(rows), [["a"], ["a", "b"], ["b"], []])

    def test_all_three_names_the_same(self):
        for kind in ("add", "sub", "mul"):
            with self.subTest(kind=kind):
                rows = [("set", "a", 1), (kind, "a", "a", "a"), ("tell", "a")]
                self.assertEqual(living(rows), [["a"], ["a"], []])
                self.assertEqual(living(rows[:2]), [["a"], []])

    def test_written_and_never_used(self):
        rows = [("set", "a", 1), ("set", "b", 2), ("add", "c", "b", "b"), ("take", "d")]
        self.assertEqual(living(rows), [[], ["b"], [], []])

    def test_a_row_whose_name_is_never_used_still_uses(self):
        self.assertEqual(living([("set", "a", 1), ("add", "b", "a", "a")]), [["a"], []])

    def test_tell_rows_use_and_do_not_write(self):
        rows = [("set", "a", 1), ("tell", "a"), ("tell", "a"), ("tell", "a")]
        self.assertEqual(living(rows), [["a"], ["a"], ["a"], []])

    def test_the_empty_name(self):
        rows = [("set", "", 1), ("take", " "), ("add", "", "", " "), ("tell", "")]
        self.assertEqual(living(rows), [[""], ["", " "], [""], []])

    def test_names_that_differ_in_one_sign_are_sorted(self):
        names = ["b", "a ", "", "aa", "a", "B", "A", " ", "ab", "a\u00e4", "10", "9", "\u00e9", "e\u0301", "a\n"]
        rows = [("set", name, 1) for name in names] + [("tell", name) for name in names]
        answer = living(rows)
        for at in range(len(names)):
            self.assertEqual(answer[at], sorted(names[:at + 1]))
            self.assertEqual(answer[len(names) + at], sorted(names[at + 1:]))
        self.assertEqual(answer[8], ["", " ", "A", "B", "a", "a ", "aa", "ab", "b"])

    def test_names_called_like_kinds(self):
        rows = [("set", "tell", 1), ("take", "set"), ("mul", "add", "tell", "set"), ("tell", "add")]
        self.assertEqual(living(rows), [["tell"], ["set", "tell"], ["add"], []])

    def test_numbers_of_any_sign_and_length(self):
        for number in (0, -1, 10 ** 32 - 1, -(10 ** 32 - 1), 10 ** 40):
            with self.subTest(number=number):
                self.assertEqual(living([("set", "a", number), ("tell", "a")]), [["a"], []])

    def test_many_rows(self):
        names = [f"n{number:03}" for number in range(60)]
        rows = [("take", name) for name in names] + [("tell", name) for name in names]
        answer = living(rows)
        self.assertEqual(answer[59], names)
        self.assertEqual(answer[60], names[1:])
        self.assertEqual(answer[119], [])

    def test_every_short_list_of_rows(self):
        for rows in every_short_list_of_rows(("", "a"), 4):
            if not refused_by_the_words(rows):
                self.assertEqual(living(rows), living_by_the_words(rows), rows)

    def test_the_kinds_of_the_answer(self):
        answer = living([("set", "a", 1), ("tell", "a"), ("set", "b", 1)])
        self.assertIs(type(answer), list)
        self.assertEqual([type(names) for names in answer], [list, list, list])

    def test_the_lists_told_are_apart(self):
        answer = living([("set", "a", 1), ("tell", "a"), ("tell", "a"), ("tell", "a")])
        answer[0].append("b")
        self.assertEqual(answer[1:], [["a"], ["a"], []])


class MostAtOnce(unittest.TestCase):
    def test_no_row(self):
        self.assertEqual(most_at_once([]), (None, []))

    def test_one_row_counts_the_name_it_writes(self):
        self.assertEqual(most_at_once([("set", "a", 5)]), (0, ["a"]))
        self.assertEqual(most_at_once([("take", "")]), (0, [""]))

    def test_a_written_name_never_used_counts_behind_its_row(self):
        rows = [("set", "a", 1), ("set", "b", 2), ("tell", "a")]
        self.assertEqual(most_at_once(rows), (1, ["a", "b"]))

    def test_a_written_name_never_used_counts_behind_no_other_row(self):
        rows = [("set", "x", 1), ("set", "y", 2), ("set", "a", 3), ("set", "b", 4), ("add", "c", "a", "b")]
        self.assertEqual(most_at_once(rows), (3, ["a", "b"]))

    def test_a_reckoning_row_frees_what_it_uses_last(self):
        rows = [("set", "a", 1), ("add", "b", "a", "a"), ("mul", "c", "b", "b"), ("tell", "c")]
        self.assertEqual(most_at_once(rows), (0, ["a"]))

    def test_a_written_name_that_is_needed_counts_once(self):
        rows = [("set", "a", 1), ("set", "a", 2), ("add", "a", "a", "a"), ("tell", "a")]
        self.assertEqual(most_at_once(rows), (0, ["a"]))

    def test_the_first_of_several_is_told(self):
        rows = [("set", "a", 1), ("set", "b", 2), ("add", "c", "a", "b"), ("set", "d", 3), ("sub", "e", "c", "d")]
        self.assertEqual(most_at_once(rows), (1, ["a", "b"]))

    def test_a_later_row_with_more_is_told(self):
        rows = [("set", "a", 1), ("set", "b", 2), ("take", "c"), ("tell", "a"), ("tell", "b"), ("tell", "c")]
        self.assertEqual(most_at_once(rows), (2, ["a", "b", "c"]))

    def test_a_tell_row_is_never_ahead_of_the_row_that_wrote(self):
        rows = [("set", "a", 1), ("tell", "a"), ("tell", "a")]
        self.assertEqual(most_at_once(rows), (0, ["a"]))

    def test_the_names_are_sorted(self):
        names = ["b", "a ", "", "B", "ab", "a"]
        rows = [("set", name, 1) for name in names] + [("tell", name) for name in names]
        self.assertEqual(most_at_once(rows), (5, ["", "B", "a", "a ", "ab", "b"]))

    def test_a_written_name_never_used_is_sorted_among_the_others(self):
        rows = [("set", "c", 1), ("set", "a", 2), ("set", "b", 3), ("sub", "c", "a", "c")]
        self.assertEqual(most_at_once(rows), (2, ["a", "b", "c"]))

    def test_many_rows(self):
        names = [f"n{number:03}" for number in range(60)]
        rows = [("take", name) for name in names] + [("tell", name) for name in names]
        self.assertEqual(most_at_once(rows), (59, names))

    def test_every_short_list_of_rows(self):
        for rows in every_short_list_of_rows(("", "a"), 4):
            if not refused_by_the_words(rows):
                self.assertEqual(most_at_once(rows), most_by_the_words(rows), rows)

    def test_the_kinds_of_the_answer(self):
        for rows in ([], [("set", "a", 1)]):
            answer = most_at_once(rows)
            self.assertIs(type(answer), tuple)
            self.assertEqual(len(answer), 2)
            self.assertIs(type(answer[1]), list)


class Refused(unittest.TestCase):
    def test_no_value_from_both(self):
        for words, rows in REFUSED.items():
            for asked in (living, most_at_once):
                for error in (NoValue, PlaceError, ValueError):
                    with self.subTest(words, asked=asked.__name__, error=error.__name__):
                        self.assertRaises(error, asked, rows)

    def test_every_short_list_of_rows(self):
        for rows in every_short_list_of_rows(("", "a"), 3):
            for asked in (living, most_at_once):
                if refused_by_the_words(rows):
                    self.assertRaises(NoValue, asked, rows)
                else:
                    asked(rows)


class HandedIn(unittest.TestCase):
    def test_the_rows_stay_as_they_were(self):
        rows = [("take", "b"), ("set", "a", -7), ("mul", "b", "b", "a"), ("sub", "", "b", "b"), ("tell", "")]
        self.check_unchanged(rows)

    def test_refused_rows_stay_as_they_were(self):
        for rows in REFUSED.values():
            self.check_unchanged(rows)

    def check_unchanged(self, rows):
        for asked in (living, most_at_once):
            self.assertTrue(leaves_as_they_were(asked, rows), rows)

    def test_the_same_is_told_again_whatever_became_of_the_answer(self):
        rows = [("set", "a", 1), ("set", "b", 2), ("add", "c", "a", "b"), ("tell", "c")]
        living(rows)[1].clear()
        most_at_once(rows)[1].clear()
        self.assertEqual(living(rows), [["a"], ["a", "b"], ["c"], []])
        self.assertEqual(most_at_once(rows), (1, ["a", "b"]))


if __name__ == "__main__":
    unittest.main()
