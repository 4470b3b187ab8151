import unittest

from calling import TOP, begun, run


class Drop(unittest.TestCase):
    def test_drop_answers_what_it_was(self):
        self.assertEqual(begun(("drop", 11), ("drop", 0), ("drop", 5)), [[3], [11], [0]])

    def test_drop_not_less_than_the_repeat(self):
        self.assertEqual(begun(("drop", 12), ("drop", 13), ("drop", TOP), ("drop", 1)), [[-22], [-22], [-22], [3]])

    def test_drop_by_the_repeat_that_now_is(self):
        self.assertEqual(begun(("pattern", 4), ("drop", 4), ("drop", 3)), [[12], [-22], [3]])


class Pattern(unittest.TestCase):
    def test_pattern_answers_what_the_repeat_was(self):
        self.assertEqual(begun(("pattern", 12), ("pattern", 6), ("pattern", 2), ("pattern", 1), ("pattern", 1)),
                         [[12], [12], [6], [2], [1]])

    def test_pattern_that_does_not_go_into_the_repeat(self):
        self.assertEqual(begun(("pattern", 0), ("pattern", 5), ("pattern", 24), ("pattern", 13), ("pattern", TOP),
                               ("pattern", 12)), [[-22]] * 5 + [[12]])

    def test_what_is_left_of_the_drop(self):
        self.assertEqual(run(("begin", 12, 11, 9), ("pattern", 6), ("drop", 2)), [[0], [12], [5]])
        self.assertEqual(run(("begin", 12, 8, 9), ("pattern", 4), ("drop", 2)), [[0], [12], [0]])
        self.assertEqual(run(("begin", 12, 3, 9), ("pattern", 4), ("drop", 2)), [[0], [12], [3]])
        self.assertEqual(run(("begin", 12, 11, 9), ("pattern", 5), ("drop", 2)), [[0], [-22], [11]])

    def test_what_is_left_of_where_rolls_begin(self):
        # By 12 the roll from 8 on loses 4 ahead of place 0; by 4 none; by 3 it begins at 2 and loses 1.
        strip = (("room", 9, 6), ("roll", 10, 8))
        self.assertEqual(begun(*strip, ("spare",), ("pattern", 4), ("spare",))[2:], [[1, 0], [12], [1, 4]])
        self.assertEqual(begun(*strip, ("pattern", 3), ("spare",), ("back",), ("spare",))[2:],
                         [[12], [1, 3], [2], [1, 0]])
        told = begun(("roll", 6, 11), ("roll", 7, 7), ("roll", 8, 4), ("pattern", 4), ("room", 9, 6), ("room", 9, 7),
                     ("room", 9, 8), ("fits",))
        self.assertEqual(told[-1], [-33])
        told = begun(("roll", 7, 11), ("roll", 8, 7), ("roll", 8, 4), ("pattern", 4), ("room", 9, 6), ("room", 9, 7),
                     ("room", 9, 8), ("fits",))
        self.assertEqual(told[-1], [3, 0, 1, 2])

    def test_a_refused_pattern_leaves_rolls(self):
        told = begun(("roll", 100, 2), ("room", 9, 6), ("pattern", 5), ("pattern", 0), ("spare",), ("state",))
        self.assertEqual(told[2:], [[-22], [-22], [1, 84], [12, 3, 10, 0, 0, 1, 1]])


class Rolls(unittest.TestCase):
    def test_roll_answers_its_number(self):
        self.assertEqual(begun(("roll", 1, 0), ("roll", 10000, 11), ("roll", 1, 11)), [[0], [1], [2]])

    def test_roll_not_as_told(self):
        self.assertEqual(begun(("roll", 0, 0), ("roll", 10001, 0), ("roll", 5, 12), ("roll", 5, TOP), ("roll", TOP, 0),
                               ("roll", 5, 11)), [[-22]] * 5 + [[0]])

    def test_roll_by_the_repeat_that_now_is(self):
        self.assertEqual(begun(("pattern", 4), ("roll", 5, 4), ("roll", 5, 3)), [[12], [-22], [0]])

    def test_a_fourth_roll(self):
        told = begun(("roll", 1, 0), ("roll", 2, 0), ("roll", 3, 0), ("roll", 4, 0), ("roll", 0, 0), ("roll", 4, 12),
                     ("unroll", 1), ("roll", 4, 0))
        self.assertEqual(told[3:], [[-28], [-22], [-22], [2], [2]])

    def test_unroll(self):
        told = begun(("unroll", 0), ("roll", 1, 0), ("roll", 2, 0), ("unroll", 2), ("unroll", TOP), ("unroll", 0),
                     ("unroll", 1), ("unroll", 0), ("unroll", 0))
        self.assertEqual(told, [[-2], [0], [1], [-2], [-2], [1], [-2], [0], [-2]])

    def test_those_behind_one_that_is_gone(self):
        told = begun(("roll", 10, 0), ("roll", 20, 1), ("roll", 30, 2), ("unroll", 1), ("room", 9, 5), ("spare",))
        self.assertEqual(told[-1], [2, 5, 30])
        told = begun(("roll", 4, 0), ("roll", 20, 1), ("roll", 30, 2), ("unroll", 1), ("room", 9, 5), ("spare",))
        self.assertEqual(told[-1], [2, 4, 15])


if __name__ == "__main__":
    unittest.main()
