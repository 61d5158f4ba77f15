import unittest

from fewplaces.errors import NoValue
from fewplaces.rows import name_written, names_used, refuse_unwritten


class UsedAndWritten(unittest.TestCase):
    def test_set_uses_none_and_writes(self):
        self.assertEqual(names_used(("set", "a", 3)), [])
        self.assertEqual(name_written(("set", "a", 3)), "a")

    def test_take_uses_none_and_writes(self):
        self.assertEqual(names_used(("take", "a")), [])
        self.assertEqual(name_written(("take", "a")), "a")

    def test_reckoning_rows_use_two_names_and_write_one(self):
        for kind in ("add", "sub", "mul"):
            with self.subTest(kind=kind):
                self.assertEqual(names_used((kind, "a", "c", "b")), ["c", "b"])
                self.assertEqual(name_written((kind, "a", "c", "b")), "a")

    def test_a_name_used_twice_is_one_name(self):
        self.assertEqual(names_used(("mul", "a", "b", "b")), ["b"])
        self.assertEqual(names_used(("mul", "a", "a", "a")), ["a"])

    def test_tell_uses_and_writes_none(self):
        self.assertEqual(names_used(("tell", "a")), ["a"])
        self.assertIsNone(name_written(("tell", "a")))

    def test_the_empty_name_is_a_name(self):
        self.assertEqual(names_used(("add", "a", "", "")), [""])
        self.assertEqual(names_used(("tell", "")), [""])
        self.assertEqual(name_written(("set", "", 0)), "")

    def test_names_may_be_called_like_kinds(self):
        self.assertEqual(names_used(("set", "tell", 1)), [])
        self.assertEqual(name_written(("set", "tell", 1)), "tell")
        self.assertEqual(names_used(("add", "tell", "set", "take")), ["set", "take"])


class Refused(unittest.TestCase):
    def test_no_row_is_not_refused(self):
        self.assertIsNone(refuse_unwritten([]))

    def test_written_before_use_is_not_refused(self):
        refuse_unwritten([("set", "", -1), ("take", "a"), ("sub", "a", "a", ""), ("tell", "a")])

    def test_unwritten_is_refused(self):
        with self.assertRaises(NoValue):
            refuse_unwritten([("set", "a", 1), ("tell", "b")])


if __name__ == "__main__":
    unittest.main()
