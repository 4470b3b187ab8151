import unittest

from calling import begun, last, run

# Two strips of 12, each from place 0 of a pattern of 12 on.
TWO = (("drop", 0), ("room", 20, 12))
# Strips of 7, of 12 and of 5, each from place 0 on.
THREE = (("room", 9, 7), ("room", 9, 12), ("room", 9, 5))
BARRED = (("room", 15, 5), ("door", 0, 0, 15))
ASKED = (("fits",), ("spare",), ("most",))


class Refused(unittest.TestCase):
    def test_no_rolls(self):
        self.assertEqual(begun(*ASKED), [[-6]] * 3)
        self.assertEqual(begun(*TWO, *ASKED)[2:], [[-6]] * 3)
        self.assertEqual(begun(*TWO, ("roll", 50, 0), ("unroll", 0), *ASKED)[4:], [[-6]] * 3)

    def test_no_rolls_comes_ahead_of_rooms_that_cannot_be_laid(self):
        self.assertEqual(begun(*BARRED, *ASKED)[2:], [[-6]] * 3)
        self.assertEqual(begun(("room", 70, 9), *ASKED)[1:], [[-6]] * 3)

    def test_rooms_that_cannot_be_laid(self):
        self.assertEqual(begun(*BARRED, ("roll", 9999, 0), *ASKED)[3:], [[-33]] * 3)
        self.assertEqual(begun(("room", 70, 9), ("roll", 9999, 0), *ASKED)[2:], [[-33]] * 3)

    def test_they_do_not_fit(self):
        self.assertEqual(begun(*TWO, ("roll", 23, 0), *ASKED)[3:], [[-33], [-33], [1, 1]])
        self.assertEqual(begun(*TWO, ("roll", 11, 0), ("roll", 11, 0), ("roll", 11, 0), *ASKED)[5:],
                         [[-33], [-33], [0, 0]])


class Fits(unittest.TestCase):
    def test_no_strips(self):
        self.assertEqual(begun(("roll", 5, 0), ("roll", 7, 3), *ASKED)[2:], [[0], [2, 5, 7], [0, 0]])

    def test_a_roll_just_long_enough(self):
        self.assertEqual(begun(*TWO, ("roll", 24, 0), *ASKED)[3:], [[2, 0, 0], [1, 0], [2, 3]])
        self.assertEqual(begun(*TWO, ("roll", 25, 0), *ASKED)[3:], [[2, 0, 0], [1, 1], [2, 3]])

    def test_a_roll_that_begins_elsewhere(self):
        # 11 are lost till place 0 comes; from place 5 on 7 are.
        self.assertEqual(begun(*TWO, ("roll", 35, 1), *ASKED)[3:], [[2, 0, 0], [1, 0], [2, 3]])
        self.assertEqual(begun(*TWO, ("roll", 34, 1), *ASKED)[3:], [[-33], [-33], [1, 1]])
        self.assertEqual(begun(*TWO, ("roll", 31, 5), *ASKED)[3:], [[2, 0, 0], [1, 0], [2, 3]])
        self.assertEqual(begun(*TWO, ("roll", 30, 5), ("spare",), ("most",))[3:], [[-33], [1, 1]])

    def test_the_first_way(self):
        self.assertEqual(begun(*TWO, ("roll", 12, 0), ("roll", 24, 0), *ASKED)[4:], [[2, 0, 1], [2, 0, 12], [2, 3]])
        self.assertEqual(begun(*TWO, ("roll", 11, 0), ("roll", 24, 0), *ASKED)[4:], [[2, 1, 1], [2, 11, 0], [2, 3]])
        self.assertEqual(begun(*TWO, ("roll", 24, 0), ("roll", 24, 0), *ASKED)[4:], [[2, 0, 0], [2, 0, 24], [2, 3]])
        self.assertEqual(begun(*TWO, ("roll", 12, 0), ("roll", 11, 0), ("roll", 12, 0), *ASKED)[5:],
                         [[2, 0, 2], [3, 0, 11, 0], [2, 3]])

    def test_an_early_strip_makes_room_for_a_later_one(self):
        # Of 7, 12 and 5 the roll of 12 holds just one; the way that gives it the first is first.
        told = begun(*THREE, ("roll", 12, 0), ("roll", 17, 0), ("fits",), ("spare",))
        self.assertEqual(told[5:], [[3, 0, 1, 1], [2, 5, 0]])
        # With 5 for the other roll the one of 12 can't have the first.
        told = begun(*THREE[:2], ("roll", 12, 0), ("roll", 7, 0), ("fits",), ("spare",))
        self.assertEqual(told[4:], [[2, 1, 0], [2, 0, 0]])

    def test_the_best_order_of_each_rolls_strips(self):
        # Strips of 4 from places 0, 8 and 4 of 12 on.
        strips = (("begin", 12, 8, 10), ("room", 30, 4))
        for begins in (0, 4, 8):
            self.assertEqual(run(*strips, ("roll", 12, begins), *ASKED)[3:], [[3, 0, 0, 0], [1, 0], [3, 7]])
        self.assertEqual(run(*strips, ("roll", 12, 6), *ASKED)[3:], [[-33], [-33], [2, 3]])
        self.assertEqual(run(*strips, ("roll", 14, 6), *ASKED)[3:], [[3, 0, 0, 0], [1, 0], [3, 7]])

    def test_six_strips_to_three_rolls(self):
        told = run(("begin", 12, 0, 10), ("room", 60, 12), ("roll", 24, 0), ("roll", 24, 0), ("roll", 24, 0), *ASKED)
        self.assertEqual(told[5:], [[6, 0, 0, 1, 1, 2, 2], [3, 0, 0, 0], [6, 63]])

    def test_asking_changes_nothing(self):
        told = begun(*TWO, ("roll", 12, 0), ("roll", 24, 5), ("state",), *ASKED, *ASKED, ("state",))
        self.assertEqual(told[4], told[-1])
        self.assertEqual(told[5:8], told[8:11])


class Most(unittest.TestCase):
    def test_of_like_sets_the_least(self):
        for length, expected in ((4, [0, 0]), (5, [1, 4]), (6, [1, 4]), (7, [1, 1]), (12, [1, 1]), (16, [1, 1]),
                                 (17, [2, 5]), (18, [2, 5]), (19, [2, 3]), (28, [2, 3]), (29, [3, 7])):
            self.assertEqual(last(*THREE, ("roll", length, 0), ("most",)), expected, length)

    def test_by_several_rolls(self):
        self.assertEqual(last(*THREE, ("roll", 5, 0), ("roll", 5, 0), ("most",)), [1, 4])
        self.assertEqual(last(*THREE, ("roll", 5, 0), ("roll", 7, 0), ("most",)), [2, 5])
        self.assertEqual(last(*THREE, ("roll", 7, 0), ("roll", 5, 0), ("roll", 12, 0), ("most",)), [3, 7])
        self.assertEqual(last(*THREE, ("roll", 12, 0), ("roll", 12, 0), ("most",)), [2, 3])


if __name__ == "__main__":
    unittest.main()
