import itertools
import unittest

from calling import TOP, begun, last, run

# Strips of 7, of 12 and of 5, each from place 0 of a pattern of 12 on.
THREE = (("room", 9, 7), ("room", 9, 12), ("room", 9, 5))
BARRED = (("room", 15, 5), ("door", 0, 0, 15), ("side", 0, 0, 5))
SEVEN = (("room", 30, 200), ("room", 40, 200))
OF_ALL = (("all",), ("need",), ("order", [0]), ("finer", 1))


class CannotBeLaid(unittest.TestCase):
    def test_a_door_that_bars_every_first_strip(self):
        for call in OF_ALL:
            self.assertEqual(last(*BARRED, call), [-33], call)
            self.assertEqual(last(("room", 5, 5), ("room", 5, 5), ("room", 15, 5), ("door", 2, 0, 15), call), [-33])

    def test_seven_strips(self):
        for call in OF_ALL + (("best_turn",),):
            self.assertEqual(last(*SEVEN, call), [-33], call)
            self.assertGreaterEqual(last(*SEVEN, ("unroom", 0), ("order", [0, 1, 2, 3]), ("all",))[0], 0)
        self.assertEqual(last(("room", 70, 200), ("all",)), [-33])

    def test_six_strips(self):
        self.assertEqual(last(("room", 30, 4), ("room", 30, 5), ("all",)),
                         [6, 4, 0, 4, 3, 4, 6, 5, 0, 5, 3, 5, 6])
        self.assertEqual(last(("room", 61, 4), ("all",)), [-33])
        self.assertEqual(last(("room", 60, 4), ("all",)), [6, 4, 0, 4, 3, 4, 6, 4, 9, 4, 0, 4, 3])


class All(unittest.TestCase):
    def test_no_rooms(self):
        self.assertEqual(begun(("all",), ("need",), ("order", []), ("finer", 12), ("best_turn",)),
                         [[0], [0], [0, 0], [0], [0, 0]])

    def test_rooms_in_order(self):
        told = begun(("room", 20, 5), ("room", 9, 7), ("room", 11, 6), ("all",), ("unroom", 1), ("all",))
        self.assertEqual(told[3:], [[5, 5, 0, 5, 3, 7, 0, 6, 0, 6, 3], [2], [4, 5, 0, 5, 3, 6, 0, 6, 3]])

    def test_a_room_turned(self):
        told = begun(("room", 20, 5), ("turn", 0), ("all",))
        self.assertEqual(told[-1], [1, 20, 0])


class Need(unittest.TestCase):
    def test_one_strip(self):
        self.assertEqual(last(("room", 9, 7), ("need",)), [7, 0])

    def test_the_best_order(self):
        self.assertEqual(last(*THREE[:2], ("need",)), [19, 1, 0])
        self.assertEqual(last(*THREE[1:], *THREE[1:2], ("need",)), [29, 0, 2, 1])

    def test_the_first_of_like_orders(self):
        # 5 is lost behind the first one of 7, wherever that of 24 is cut ahead of the other one.
        self.assertEqual(last(*THREE, ("need",)), [29, 0, 1, 2])
        self.assertEqual(last(("room", 9, 7), ("room", 9, 24), ("room", 9, 7), ("need",)), [43, 0, 1, 2])
        self.assertEqual(run(("begin", 1, 0, 10), ("room", 60, 9), ("need",))[-1], [54, 0, 1, 2, 3, 4, 5])

    def test_strips_that_follow_one_another(self):
        self.assertEqual(run(("begin", 12, 8, 10), ("room", 30, 4), ("need",))[-1], [12, 0, 2, 1])
        self.assertEqual(run(("begin", 12, 6, 10), ("room", 40, 18), ("need",))[-1], [72, 0, 1, 2, 3])
        self.assertEqual(run(("begin", 12, 6, 10), ("room", 40, 12), ("need",))[-1], [54, 0, 2, 1, 3])

    def test_a_pattern_of_1(self):
        self.assertEqual(last(*THREE, ("pattern", 1), ("need",)), [24, 0, 1, 2])

    def test_the_greatest(self):
        # Six of 200 each from 0 on, each but the last up to 240.
        self.assertEqual(run(("begin", 60, 0, 60), ("room", 200, 200), ("room", 60, 200), ("room", 1, 200),
                             ("need",))[-1], [1400, 0, 1, 2, 3, 4, 5])


class Order(unittest.TestCase):
    def test_how_much_it_needs_and_how_much_is_in_no_strip(self):
        for row, expected in (([0, 1, 2], [29, 5]), ([0, 2, 1], [36, 12]), ([1, 0, 2], [29, 5]), ([1, 2, 0], [31, 7]),
                              ([2, 0, 1], [36, 12]), ([2, 1, 0], [31, 7])):
            self.assertEqual(last(*THREE, ("order", row)), expected, row)

    def test_the_first_one_from_where_the_pattern_is_as_it_must_be(self):
        self.assertEqual(begun(("room", 20, 5), ("order", [0, 1]), ("order", [1, 0]))[1:], [[20, 10], [17, 7]])

    def test_the_row_is_not_all_strips_each_once(self):
        for row in ([], [0], [0, 1], [0, 1, 1], [0, 0, 1], [0, 1, 3], [1, 2, 3], [0, 1, 2, 3], [0, 1, 2, 2],
                    [0, 1, TOP], [2, 2, 2], [0, 1, 2, 0, 1, 2, 0, 1]):
            self.assertEqual(last(*THREE, ("order", row)), [-22], row)

    def test_no_strips(self):
        self.assertEqual(begun(("order", [0]), ("order", []), ("order", [0, 1, 2, 3, 4, 5, 6, 7])),
                         [[-22], [0, 0], [-22]])

    def test_that_they_cannot_be_laid_comes_first(self):
        self.assertEqual(last(*BARRED, ("order", [])), [-33])
        self.assertEqual(last(*SEVEN, ("order", [0, 1, 2, 3, 4, 5, 6])), [-33])

    def test_a_row_of_six(self):
        told = last(("drop", 0), ("room", 60, 12), ("order", [5, 3, 1, 0, 2, 4]))
        self.assertEqual(told, [72, 0])

    def test_what_comes_behind_the_row_is_read(self):
        self.assertEqual(begun(("order", [7, 7]), ("room", 9, 7), ("order", [0]), ("state",))[1:],
                         [[0], [7, 0], [12, 3, 10, 0, 0, 1, 0]])


class Finer(unittest.TestCase):
    def test_what_all_would_need(self):
        told = begun(("drop", 0), ("room", 30, 5), *[("finer", n) for n in (12, 6, 4, 3, 2, 1)], ("need",), ("state",))
        self.assertEqual(told[2:], [[29], [17], [21], [17], [17], [15], [29, 0, 1, 2], [12, 0, 10, 0, 0, 1, 0]])

    def test_of_the_drop_what_is_left(self):
        # By 6 the drop of 9 is 3: strips of 9 from 0, 3, 0 and 3 on, none lost.
        told = run(("begin", 12, 9, 10), ("room", 40, 9), ("finer", 6), ("pattern", 6), ("need",))
        self.assertEqual(told[2:], [[36], [12], [36, 0, 1, 2, 3]])

    def test_not_as_told(self):
        for n in (0, 5, 7, 8, 11, 13, 24, 60, TOP):
            self.assertEqual(last(*THREE, ("finer", n)), [-22], n)

    def test_that_it_is_not_as_told_comes_first(self):
        self.assertEqual(begun(*BARRED, ("finer", 5), ("finer", 0), ("finer", 6))[3:], [[-22], [-22], [-33]])

    def test_a_repeat_of_1(self):
        self.assertEqual(run(("begin", 1, 0, 10), ("room", 9, 9), ("finer", 1), ("finer", 2))[2:], [[9], [-22]])


class BestTurn(unittest.TestCase):
    def test_a_room_turned_that_needs_less(self):
        told = begun(("wide", 20), ("drop", 0), ("room", 30, 15), ("best_turn",), ("look", 0), ("need",), ("turn", 0),
                     ("best_turn",), ("need",))
        self.assertEqual(told[3:], [[30, 1], [30, 15, 0, 0], [39, 0, 1], [15], [30, 0], [30, 0]])

    def test_a_room_that_cannot_be_laid_turned(self):
        told = begun(("wide", 20), ("drop", 0), ("room", 30, 15), ("side", 0, 0, 15), ("best_turn",),
                     ("wide", 14), ("best_turn",), ("turn", 0), ("need",), ("best_turn",))
        self.assertEqual(told[4:], [[30, 1], [20], [63, 0], [15], [-33], [63, 1]])

    def test_none_can_be_laid(self):
        told = begun(("room", 15, 18), ("door", 0, 0, 15), ("side", 0, 0, 18), ("best_turn",), ("turn", 0),
                     ("best_turn",), ("look", 0))
        self.assertEqual(told[3:], [[-33], [18], [-33], [18, 15, 1, 1, 0, 18, 0, 15]])

    def test_bits_and_the_least_of_like_sets(self):
        told = begun(("wide", 20), ("drop", 0), ("room", 5, 5), ("room", 30, 20), ("room", 5, 5), ("best_turn",))
        self.assertEqual(told[-1][1], 2)
        told = begun(("wide", 20), ("drop", 0), ("room", 30, 20), ("room", 5, 5), ("room", 30, 20), ("best_turn",))
        self.assertEqual(told[-1][1], 5)

    def test_more_strips_than_six_as_they_are(self):
        told = run(("begin", 1, 0, 10), ("room", 61, 5), ("need",), ("best_turn",), ("look", 0))
        self.assertEqual(told[2:], [[-33], [61, 1], [61, 5, 0, 0]])

    def test_set_turn_answers_the_same(self):
        for along, across in itertools.product((5, 14, 23), (8, 17, 30)):
            told = begun(("room", across, along), ("room", along + 1, across), ("best_turn",), ("set_turn",))
            self.assertEqual(told[2], told[3])


if __name__ == "__main__":
    unittest.main()
