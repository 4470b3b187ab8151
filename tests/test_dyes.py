import unittest

from calling import TOP, begun, last

FIVE_DYES = tuple(("dye", 1, 0, number, number) for number in range(5))
FOUR_TINTS = tuple(("tint", 1, 0, number, number + 1) for number in range(4))


class Dyes(unittest.TestCase):
    def test_dye_answers_its_number(self):
        self.assertEqual(begun(*FIVE_DYES), [[0], [1], [2], [3], [4]])

    def test_dye_at_the_edges(self):
        for given in ((50, 50, 50, 1000), (1, 0, 0, 0), (0, 1, 0, 0), (0, 0, 1, 0), (50, 0, 0, 1), (0, 50, 0, 1)):
            self.assertEqual(last(("dye",) + given), [0])

    def test_dye_not_as_told(self):
        for given in ((0, 0, 0, 1), (51, 1, 1, 1), (1, 51, 1, 1), (1, 1, 51, 1), (1, 1, 1, 1001), (TOP, 0, 0, 1),
                      (1, 0, 0, TOP)):
            self.assertEqual(begun(("dye",) + given, ("dye", 1, 1, 1, 1)), [[-22], [0]])

    def test_a_sixth_dye(self):
        told = begun(*FIVE_DYES, ("dye", 1, 1, 1, 1), ("dye", 0, 0, 0, 1), ("dye", 51, 0, 0, 1),
                     ("dye", 1, 1, 1, 1001), ("undye", 4), ("dye", 1, 1, 1, 1))
        self.assertEqual(told[5:], [[-28], [-22], [-22], [-22], [4], [4]])

    def test_the_same_dye_again_is_one_more(self):
        self.assertEqual(begun(("dye", 1, 2, 3, 4), ("dye", 1, 2, 3, 4)), [[0], [1]])

    def test_undye_answers_how_many_there_are(self):
        told = begun(*FIVE_DYES, ("undye", 5), ("undye", 0), ("undye", 4), ("undye", 3), ("undye", 1), ("undye", 1),
                     ("undye", 0), ("undye", 0), ("undye", TOP))
        self.assertEqual(told[5:], [[-2], [4], [-2], [3], [2], [1], [0], [-2], [-2]])

    def test_those_behind_one_that_is_gone_are_numbered_one_less(self):
        told = begun(("dye", 1, 0, 0, 10), ("dye", 0, 1, 0, 20), ("dye", 0, 0, 1, 30), ("undye", 1),
                     ("price", 0, 11), ("price", 1, 31), ("price", 2, 1), ("least", 0, 0, 1), ("makes", 0, 1, 0))
        self.assertEqual(told[3:], [[2], [10], [30], [-2], [1, 31, 1, 1, 1, 1], [0]])

    def test_price_answers_what_it_was(self):
        told = begun(("dye", 1, 0, 0, 10), ("price", 0, 1000), ("price", 0, 0), ("least", 1, 0, 0),
                     ("price", 0, 7), ("least", 3, 0, 0))
        self.assertEqual(told[1:], [[10], [1000], [1, 0, 1, 0, 1, 1], [0], [1, 21, 1, 0, 3, 1]])

    def test_price_refused(self):
        told = begun(("price", 0, 5), ("price", 0, 1001), ("dye", 1, 0, 0, 10), ("price", 1, 1001), ("price", 1, 1),
                     ("price", 0, 1001), ("price", 0, TOP), ("price", TOP, 0), ("price", 0, 3))
        self.assertEqual(told, [[-2], [-2], [0], [-2], [-2], [-22], [-22], [-2], [10]])


class Tints(unittest.TestCase):
    def test_tint_answers_its_number(self):
        self.assertEqual(begun(*FOUR_TINTS), [[0], [1], [2], [3]])

    def test_tint_at_the_edges(self):
        for given in ((0, 0, 0, 1), (1000, 1000, 1000, 1000)):
            self.assertEqual(last(("tint",) + given), [0])

    def test_tint_not_as_told(self):
        for given in ((1001, 0, 0, 1), (0, 1001, 0, 1), (0, 0, 1001, 1), (1, 1, 1, 0), (1, 1, 1, 1001),
                      (TOP, TOP, TOP, TOP)):
            self.assertEqual(begun(("tint",) + given, ("tint", 1, 1, 1, 1)), [[-22], [0]])

    def test_a_fifth_tint(self):
        told = begun(*FOUR_TINTS, ("tint", 1, 1, 1, 1), ("tint", 1001, 1, 1, 1), ("tint", 1, 1, 1, 0),
                     ("untint", 0), ("tint", 1, 1, 1, 1))
        self.assertEqual(told[4:], [[-28], [-22], [-22], [3], [3]])

    def test_untint(self):
        told = begun(*FOUR_TINTS, ("untint", 4), ("untint", 1), ("grams", 0, 9), ("grams", 1, 9), ("grams", 2, 9),
                     ("grams", 3, 9), ("untint", 2), ("untint", 0), ("untint", 0), ("untint", 0))
        self.assertEqual(told[4:], [[-2], [3], [1], [3], [4], [-2], [2], [1], [0], [-2]])

    def test_untint_takes_the_colour_along(self):
        told = begun(("dye", 1, 0, 0, 1), ("tint", 0, 1, 0, 5), ("tint", 1, 0, 0, 6), ("tint", 0, 0, 1, 7),
                     ("lacking",), ("untint", 0), ("lacking",))
        self.assertEqual(told[4:], [[2, 0, 2], [2], [1, 1]])

    def test_grams_answers_how_many_it_did(self):
        told = begun(("tint", 1, 2, 3, 4), ("grams", 0, 1000), ("grams", 0, 1), ("grams", 0, 5))
        self.assertEqual(told[1:], [[4], [1000], [1]])

    def test_grams_refused(self):
        told = begun(("grams", 0, 5), ("grams", 0, 0), ("tint", 1, 0, 0, 10), ("grams", 1, 0), ("grams", 0, 0),
                     ("grams", 0, 1001), ("grams", 0, TOP), ("grams", TOP, 1), ("grams", 0, 3))
        self.assertEqual(told, [[-2], [-2], [0], [-2], [-22], [-22], [-22], [-2], [10]])


class Lacking(unittest.TestCase):
    def test_no_tints(self):
        self.assertEqual(last(("lacking",)), [0])

    def test_lacking_without_dyes(self):
        told = begun(("tint", 0, 0, 0, 1), ("tint", 1, 0, 0, 1), ("lacking",))
        self.assertEqual(told[-1], [1, 1])

    def test_the_dye_that_makes_the_colour(self):
        told = begun(("dye", 2, 1, 0, 5), ("tint", 4, 2, 0, 1), ("tint", 4, 2, 1, 1), ("tint", 3, 2, 0, 1),
                     ("lacking",), ("dye", 0, 1, 0, 9), ("lacking",), ("dye", 0, 0, 3, 9), ("lacking",),
                     ("undye", 0), ("lacking",))
        self.assertEqual(told[4:], [[2, 1, 2], [1], [1, 1], [2], [0], [2], [3, 0, 1, 2]])


if __name__ == "__main__":
    unittest.main()
