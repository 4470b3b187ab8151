import unittest

from calling import TOP, begun, last, run

OF_A_ROOM = ("first", "firsts", "seams", "strips", "look")


def laid(across, *doors):
    """A room so wide with doors; the carpet is 10 wide."""
    return (("room", across, 7),) + tuple(("door", 0, low, high) for low, high in doors)


class NoSuchRoom(unittest.TestCase):
    def test_each_call(self):
        for name in OF_A_ROOM:
            told = begun((name, 0), ("room", 5, 5), (name, 0), (name, 1), (name, TOP), ("unroom", 0), (name, 0))
            self.assertEqual([told[0]] + told[3:5] + told[6:], [[-2]] * 4, name)
            self.assertGreaterEqual(told[2][0], 0, name)

    def test_it_comes_ahead_of_widths_that_are_not_as_told(self):
        self.assertEqual(begun(("widths", 0, 0, 5), ("widths", 0, 1, 5), ("widths", TOP, 5, 4)), [[-2]] * 3)


class First(unittest.TestCase):
    def test_the_best_first_strip(self):
        for across, expected in ((1, [10, 1, 1]), (9, [10, 1, 9]), (10, [10, 1, 10]), (11, [6, 2, 5]), (15, [8, 2, 7]),
                                 (20, [10, 2, 10]), (21, [6, 3, 5]), (29, [10, 3, 9]), (200, [10, 20, 10])):
            self.assertEqual(last(*laid(across), ("first", 0)), expected, across)

    def test_no_seam_within_a_door(self):
        for doors, expected in (([(7, 9)], [7, 2, 7]), ([(6, 8)], [8, 2, 7]), ([(6, 9)], [9, 2, 6]),
                                ([(6, 8), (7, 9)], [9, 2, 6]), ([(5, 10)], [10, 2, 5]), ([(4, 10)], [10, 2, 5]),
                                ([(4, 9), (9, 10)], [9, 2, 6]), ([(5, 11)], [5, 2, 5]), ([(8, 9)], [8, 2, 7])):
            self.assertEqual(last(*laid(15, *doors), ("first", 0)), expected, doors)

    def test_more_strips_where_the_fewest_are_barred(self):
        self.assertEqual(last(*laid(15, (4, 11)), ("first", 0)), [3, 3, 2])
        self.assertEqual(last(*laid(20, (9, 11)), ("first", 0)), [5, 3, 5])

    def test_fewer_strips_come_ahead_of_wider_ones(self):
        # The seam at 10 leaves 1 for the last one; by three strips the narrowest would be 5.
        self.assertEqual(last(("wide", 10), *laid(11, (1, 10)), ("first", 0)), [10, 2, 1])
        self.assertEqual(last(*laid(19, (9, 10)), ("first", 0)), [10, 2, 9])

    def test_a_door_that_bars_every_first_strip(self):
        for name in ("first", "seams", "strips"):
            self.assertEqual(last(*laid(15, (0, 15)), (name, 0)), [-33], name)
            self.assertEqual(last(*laid(15, (2, 13)), (name, 0)), [-33], name)
            self.assertEqual(last(*laid(15, (0, 6), (5, 11), (10, 15)), (name, 0)), [-33], name)

    def test_a_room_narrower_than_the_carpet_has_no_seam_to_bar(self):
        self.assertEqual(last(*laid(9, (0, 9)), ("first", 0)), [10, 1, 9])
        self.assertEqual(last(*laid(10, (0, 10)), ("first", 0)), [10, 1, 10])

    def test_sides_bar_nothing_till_it_is_turned(self):
        told = begun(("room", 15, 18), ("side", 0, 0, 18), ("first", 0), ("turn", 0), ("first", 0))
        self.assertEqual(told[2:], [[8, 2, 7], [18], [-33]])

    def test_carpet_1_wide_and_60_wide(self):
        told = run(("begin", 5, 1, 1), ("room", 200, 3), ("first", 0), ("wide", 60), ("first", 0))
        self.assertEqual(told[2:], [[1, 200, 1], [1], [40, 4, 40]])

    def test_of_the_room_that_is_named(self):
        told = begun(("room", 15, 5), ("room", 20, 5), ("door", 0, 7, 9), ("first", 1), ("first", 0))
        self.assertEqual(told[3:], [[10, 2, 10], [7, 2, 7]])


class Firsts(unittest.TestCase):
    def test_all_are_clear_without_doors(self):
        for across in (1, 10, 200):
            self.assertEqual(last(*laid(across), ("firsts", 0)), [10] + list(range(1, 11)))
        self.assertEqual(run(("begin", 5, 1, 1), ("room", 50, 3), ("firsts", 0))[-1], [1, 1])

    def test_those_with_a_seam_within_a_door_are_not(self):
        self.assertEqual(last(*laid(15, (7, 9)), ("firsts", 0)), [9, 1, 2, 3, 4, 5, 6, 7, 9, 10])
        self.assertEqual(last(*laid(15, (10, 15)), ("firsts", 0)), [6, 5, 6, 7, 8, 9, 10])
        self.assertEqual(last(*laid(15, (10, 14), (2, 7)), ("firsts", 0)), [4, 7, 8, 9, 10])

    def test_also_a_later_seam(self):
        self.assertEqual(last(*laid(200, (190, 192)), ("firsts", 0)), [9, 2, 3, 4, 5, 6, 7, 8, 9, 10])

    def test_none(self):
        self.assertEqual(last(*laid(15, (0, 15)), ("firsts", 0)), [0])

    def test_a_door_one_wide_bars_nothing(self):
        self.assertEqual(last(*laid(15, (7, 8), (8, 9), (0, 1)), ("firsts", 0)), [10] + list(range(1, 11)))


class Seams(unittest.TestCase):
    def test_where_they_lie(self):
        for across, expected in ((9, [0]), (10, [0]), (11, [1, 6]), (15, [1, 8]), (20, [1, 10]), (21, [2, 6, 16]),
                                 (50, [4, 10, 20, 30, 40])):
            self.assertEqual(last(*laid(across), ("seams", 0)), expected, across)

    def test_by_the_best_first_strip_that_is_clear(self):
        self.assertEqual(last(*laid(15, (7, 9)), ("seams", 0)), [1, 7])
        self.assertEqual(last(*laid(20, (9, 11)), ("seams", 0)), [2, 5, 15])


class Widths(unittest.TestCase):
    def test_all_without_doors(self):
        self.assertEqual(last(*laid(200), ("widths", 0, 1, 60)), [60] + list(range(1, 61)))
        self.assertEqual(last(*laid(200), ("widths", 0, 60, 60)), [1, 60])
        self.assertEqual(last(*laid(200), ("widths", 0, 1, 1)), [1, 1])

    def test_those_by_which_some_first_strip_is_clear(self):
        # Seams at 5 and at 6 are barred.
        self.assertEqual(last(*laid(15, (4, 7)), ("widths", 0, 1, 5)), [3, 3, 4, 5])
        self.assertEqual(last(*laid(15, (0, 15)), ("widths", 0, 13, 17)), [3, 15, 16, 17])
        self.assertEqual(last(*laid(15, (0, 15)), ("widths", 0, 1, 14)), [0])
        # Seams at 1, 2, 8 and 15 are barred: by 7 the first strips 1 and 2, by 4 all four of them.
        self.assertEqual(last(*laid(16, (0, 3), (7, 9), (14, 16)), ("widths", 0, 2, 7)), [3, 5, 6, 7])

    def test_not_as_told(self):
        for low, high in ((0, 5), (0, 0), (5, 4), (5, 61), (61, 61), (1, TOP), (TOP, TOP), (TOP, 1)):
            self.assertEqual(last(*laid(15), ("widths", 0, low, high)), [-22], (low, high))

    def test_whatever_the_carpet_is_and_it_stays(self):
        told = begun(*laid(15, (0, 15)), ("widths", 0, 14, 15), ("wide", 60), ("widths", 0, 14, 15), ("state",))
        self.assertEqual(told[2:], [[1, 15], [10], [1, 15], [12, 3, 60, 0, 0, 1, 0]])


class Strips(unittest.TestCase):
    def test_each_next_one_by_the_drop_further_on(self):
        self.assertEqual(last(("room", 30, 5), ("strips", 0)), [3, 5, 0, 5, 3, 5, 6])
        self.assertEqual(last(("drop", 0), ("room", 30, 5), ("strips", 0)), [3, 5, 0, 5, 0, 5, 0])
        self.assertEqual(last(("drop", 11), ("room", 30, 5), ("strips", 0)), [3, 5, 0, 5, 11, 5, 10])

    def test_a_drop_of_half_the_repeat(self):
        self.assertEqual(last(("drop", 6), ("room", 40, 9), ("strips", 0)), [4, 9, 0, 9, 6, 9, 0, 9, 6])

    def test_a_pattern_of_1(self):
        self.assertEqual(last(("pattern", 1), ("room", 20, 9), ("strips", 0)), [2, 9, 0, 9, 0])

    def test_one_strip(self):
        self.assertEqual(last(("room", 9, 200), ("strips", 0)), [1, 200, 0])

    def test_each_room_begins_at_0_and_more_than_six_are_told(self):
        told = begun(("room", 20, 5), ("room", 70, 4), ("strips", 1), ("strips", 0))
        self.assertEqual(told[2:], [[7, 4, 0, 4, 3, 4, 6, 4, 9, 4, 0, 4, 3, 4, 6], [2, 5, 0, 5, 3]])
        told = run(("begin", 60, 59, 1), ("room", 200, 200), ("strips", 0))[-1]
        self.assertEqual(told, [200] + [value for number in range(200) for value in (200, -number % 60)])

    def test_as_many_as_with_the_best_first_strip(self):
        self.assertEqual(last(*laid(20, (9, 11)), ("strips", 0)), [3, 7, 0, 7, 3, 7, 6])


class Look(unittest.TestCase):
    def test_a_room_without_doors(self):
        self.assertEqual(last(("room", 1, 200), ("look", 0)), [1, 200, 0, 0])

    def test_doors_then_sides_as_they_came(self):
        told = begun(("room", 5, 6), ("room", 20, 30), ("door", 1, 4, 20), ("side", 1, 3, 30), ("door", 1, 1, 2),
                     ("look", 1), ("look", 0), ("turn", 1), ("look", 1))
        self.assertEqual(told[5:], [[20, 30, 2, 1, 4, 20, 1, 2, 3, 30], [5, 6, 0, 0], [30],
                                    [30, 20, 1, 2, 3, 30, 4, 20, 1, 2]])

    def test_five_of_each(self):
        doors = [("door", 0, low, low + 1) for low in range(5)]
        sides = [("side", 0, low, 30) for low in range(5)]
        told = last(("room", 20, 30), *doors, *sides, ("door", 0, 0, 9), ("side", 0, 0, 9), ("look", 0))
        self.assertEqual(told, [20, 30, 5, 5, 0, 1, 1, 2, 2, 3, 3, 4, 4, 5, 0, 30, 1, 30, 2, 30, 3, 30, 4, 30])

    def test_rooms_behind_one_that_is_gone(self):
        told = begun(("room", 5, 6), ("room", 7, 8), ("side", 1, 0, 8), ("unroom", 0), ("look", 0), ("look", 1))
        self.assertEqual(told[4:], [[7, 8, 0, 1, 0, 8], [-2]])

    def test_what_was_refused_is_not_there(self):
        told = begun(("room", 5, 6), ("room", 0, 6), ("door", 0, 0, 6), ("side", 0, 6, 6), ("look", 0), ("look", 1))
        self.assertEqual(told[4:], [[5, 6, 0, 0], [-2]])


if __name__ == "__main__":
    unittest.main()
