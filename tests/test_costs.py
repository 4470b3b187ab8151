import unittest

from calling import TOP, begun, last
from reckoning import expected_centimetre

BARRED = (("room", 15, 5), ("door", 0, 0, 15))
# One dye, one tint of twice as much of it, 5 grams, and one strip of 7: a centimetre costs 30.
PLAIN = (("dye", 1, 0, 0, 3), ("tint", 2, 0, 0, 5), ("room", 9, 7))
FIVE_DYES = tuple(("dye", 1, 0, number, 10) for number in range(5))


class Centimetre(unittest.TestCase):
    def test_no_tints(self):
        self.assertEqual(last(("centimetre",)), [0, 0, 1])
        self.assertEqual(last(("dye", 1, 2, 3, 4), ("centimetre",)), [0, 0, 1])

    def test_the_cheapest_mix_times_grams(self):
        self.assertEqual(last(*PLAIN, ("centimetre",)), [0, 30, 1])
        self.assertEqual(last(*PLAIN, ("dye", 2, 0, 0, 5), ("centimetre",)), [0, 25, 1])
        self.assertEqual(last(*PLAIN, ("grams", 0, 7), ("price", 0, 2), ("centimetre",)), [0, 28, 1])

    def test_fractions_of_several_tints_together(self):
        dyes = (("dye", 6, 0, 0, 4), ("dye", 0, 4, 0, 1))
        self.assertEqual(last(*dyes, ("tint", 8, 0, 0, 1), ("centimetre",)), [0, 16, 3])
        self.assertEqual(last(*dyes, ("tint", 8, 0, 0, 3), ("centimetre",)), [0, 16, 1])
        self.assertEqual(last(*dyes, ("tint", 8, 0, 0, 1), ("tint", 0, 1, 0, 1), ("centimetre",)), [0, 67, 12])
        self.assertEqual(last(*dyes, ("tint", 8, 0, 0, 1), ("tint", 1, 0, 0, 2), ("centimetre",)), [0, 20, 3])

    def test_a_colour_of_nothing_costs_nothing(self):
        self.assertEqual(last(("tint", 0, 0, 0, 1000), ("centimetre",)), [0, 0, 1])
        self.assertEqual(last(("dye", 1, 1, 1, 0), ("tint", 5, 5, 5, 9), ("centimetre",)), [0, 0, 1])

    def test_a_colour_that_lacks(self):
        self.assertEqual(last(("tint", 0, 1, 0, 1), ("centimetre",)), [-33])
        told = begun(*PLAIN, ("tint", 0, 1, 0, 1), ("centimetre",), ("dye", 0, 1, 0, 9), ("centimetre",), ("undye", 0),
                     ("centimetre",), ("untint", 0), ("centimetre",))
        self.assertEqual(told[4:], [[-33], [1], [0, 39, 1], [1], [-33], [1], [0, 9, 1]])

    def test_numbers_longer_than_16_digits(self):
        dyes = [(13, 30, 37, 233), (3, 1, 34, 356), (45, 28, 24, 431), (44, 47, 1, 862), (9, 35, 28, 262)]
        tints = [(222, 137, 359, 969), (756, 708, 588, 963), (918, 881, 622, 988), (167, 538, 438, 994)]
        calls = [("dye",) + dye for dye in dyes] + [("tint",) + tint for tint in tints] + [("room", 60, 199)]
        told = begun(*calls, ("centimetre",), ("need",), ("total",))[-3:]
        self.assertEqual(told[0], [0, 796941111224104186211, 28107523235513])
        cost = expected_centimetre(dyes, tints)
        self.assertEqual(told[0], [0, cost.numerator, cost.denominator])
        cost *= told[1][0]
        self.assertEqual(told[2], [0, cost.numerator, cost.denominator])


class Total(unittest.TestCase):
    def test_centimetres_times_what_one_costs(self):
        self.assertEqual(last(*PLAIN, ("total",)), [0, 210, 1])
        self.assertEqual(last(*PLAIN, ("room", 9, 12), ("total",)), [0, 570, 1])
        self.assertEqual(last(("dye", 6, 0, 0, 4), ("tint", 8, 0, 0, 1), ("room", 9, 9), ("total",)), [0, 48, 1])
        self.assertEqual(last(("dye", 6, 0, 0, 4), ("tint", 8, 0, 0, 1), ("room", 9, 7), ("total",)), [0, 112, 3])

    def test_no_tints_and_no_rooms(self):
        self.assertEqual(last(("total",)), [0, 0, 1])
        self.assertEqual(last(("room", 9, 7), ("total",)), [0, 0, 1])
        self.assertEqual(last(*PLAIN, ("unroom", 0), ("total",)), [0, 0, 1])

    def test_a_colour_that_lacks(self):
        self.assertEqual(last(("tint", 0, 0, 1, 1), ("total",)), [-33])
        self.assertEqual(last(*PLAIN, ("tint", 0, 0, 1, 1), ("total",)), [-33])

    def test_rooms_that_cannot_be_laid(self):
        self.assertEqual(last(*BARRED, ("total",)), [-33])
        self.assertEqual(last(("room", 70, 9), ("total",)), [-33])


class Cheaper(unittest.TestCase):
    def test_one_dye_more(self):
        told = begun(*PLAIN, ("cheaper", 2, 0, 0, 5), ("cheaper", 2, 0, 0, 6), ("cheaper", 1, 1, 1, 0),
                     ("cheaper", 4, 0, 0, 1), ("cheaper", 3, 0, 0, 1), ("total",), ("state",))
        self.assertEqual(told[3:], [[0, 175, 1], [0, 210, 1], [0, 210, 1], [0, 35, 2], [0, 70, 3], [0, 210, 1],
                                    [12, 3, 10, 1, 1, 1, 0]])

    def test_the_dye_that_makes_a_colour_that_lacks(self):
        told = begun(("tint", 0, 1, 0, 2), ("room", 9, 7), ("total",), ("cheaper", 0, 1, 0, 5), ("cheaper", 1, 0, 0, 5),
                     ("cheaper", 0, 4, 0, 5), ("total",))
        self.assertEqual(told[2:], [[-33], [0, 70, 1], [-33], [0, 35, 2], [-33]])

    def test_not_as_told(self):
        for given in ((0, 0, 0, 1), (51, 0, 0, 1), (0, 51, 0, 1), (0, 0, 51, 1), (1, 1, 1, 1001), (TOP, 0, 0, 0),
                      (1, 0, 0, TOP)):
            self.assertEqual(last(*PLAIN, ("cheaper",) + given), [-22])
            self.assertEqual(last(*FIVE_DYES, ("cheaper",) + given), [-22], "ahead of -28")
            self.assertEqual(last(*BARRED, ("cheaper",) + given), [-22], "ahead of -33")
        self.assertEqual(last(*PLAIN, ("cheaper", 50, 50, 50, 1000)), [0, 210, 1])

    def test_five_dyes(self):
        self.assertEqual(last(*FIVE_DYES, ("cheaper", 1, 1, 1, 1)), [-28])
        self.assertEqual(last(*FIVE_DYES, *BARRED, ("cheaper", 1, 1, 1, 1)), [-28], "ahead of -33")
        self.assertEqual(last(*FIVE_DYES[1:], ("cheaper", 1, 1, 1, 1)), [0, 0, 1])

    def test_rooms_that_cannot_be_laid(self):
        self.assertEqual(last(*BARRED, ("cheaper", 1, 1, 1, 1)), [-33])


class Without(unittest.TestCase):
    def test_no_such_dye(self):
        self.assertEqual(begun(("without", 0), *BARRED, ("without", 0), *PLAIN[:1], ("without", 1), ("without", TOP)),
                         [[-2], [0], [0], [-2], [0], [-2], [-2]])

    def test_what_all_would_cost(self):
        told = begun(*PLAIN, ("dye", 2, 0, 0, 5), ("dye", 0, 1, 0, 1), ("total",), ("without", 0), ("without", 1),
                     ("without", 2), ("total",), ("state",))
        self.assertEqual(told[5:], [[0, 175, 1], [0, 175, 1], [0, 210, 1], [0, 175, 1], [0, 175, 1],
                                    [12, 3, 10, 3, 1, 1, 0]])

    def test_a_colour_that_lacks_then(self):
        self.assertEqual(last(*PLAIN, ("without", 0)), [-33])
        self.assertEqual(last(*PLAIN, ("dye", 0, 1, 0, 1), ("without", 0)), [-33])
        self.assertEqual(last(*PLAIN, ("dye", 0, 1, 0, 1), ("without", 1)), [0, 210, 1])

    def test_rooms_that_cannot_be_laid(self):
        self.assertEqual(last(("dye", 1, 0, 0, 1), *BARRED, ("without", 0)), [-33])

    def test_no_tints(self):
        self.assertEqual(last(("dye", 1, 0, 0, 1), ("room", 9, 7), ("without", 0)), [0, 0, 1])


class Looks(unittest.TestCase):
    def test_look_dye(self):
        told = begun(("look_dye", 0), ("dye", 1, 2, 3, 4), ("dye", 50, 0, 0, 1000), ("look_dye", 0), ("look_dye", 1),
                     ("look_dye", 2), ("look_dye", TOP), ("price", 0, 9), ("look_dye", 0), ("undye", 0),
                     ("look_dye", 0), ("look_dye", 1))
        self.assertEqual(told, [[-2], [0], [1], [4, 1, 2, 3], [1000, 50, 0, 0], [-2], [-2], [4], [9, 1, 2, 3], [1],
                                [1000, 50, 0, 0], [-2]])

    def test_look_tint(self):
        told = begun(("look_tint", 0), ("tint", 1, 2, 3, 4), ("tint", 1000, 0, 0, 1000), ("look_tint", 0),
                     ("look_tint", 1), ("look_tint", 2), ("look_tint", TOP), ("grams", 0, 9), ("look_tint", 0),
                     ("untint", 0), ("look_tint", 0), ("look_tint", 1))
        self.assertEqual(told, [[-2], [0], [1], [4, 1, 2, 3], [1000, 1000, 0, 0], [-2], [-2], [4], [9, 1, 2, 3], [1],
                                [1000, 1000, 0, 0], [-2]])


if __name__ == "__main__":
    unittest.main()
