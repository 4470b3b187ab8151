import unittest

from calling import TOP, begun

THREE_ROOMS = (("room", 5, 7), ("room", 6, 8), ("room", 9, 4))


class Rooms(unittest.TestCase):
    def test_room_answers_its_number(self):
        self.assertEqual(begun(*THREE_ROOMS), [[0], [1], [2]])

    def test_room_at_the_edges(self):
        self.assertEqual(begun(("room", 1, 1), ("room", 200, 200), ("room", 1, 200)), [[0], [1], [2]])

    def test_room_not_as_told(self):
        for given in ((0, 5), (5, 0), (201, 5), (5, 201), (TOP, TOP)):
            self.assertEqual(begun(("room",) + given, ("room", 5, 5)), [[-22], [0]])

    def test_a_fourth_room(self):
        told = begun(*THREE_ROOMS, ("room", 5, 5), ("room", 0, 5), ("room", 5, 201), ("unroom", 2), ("room", 5, 5))
        self.assertEqual(told[3:], [[-28], [-22], [-22], [2], [2]])

    def test_unroom(self):
        told = begun(*THREE_ROOMS, ("unroom", 3), ("unroom", 1), ("turn", 0), ("turn", 1), ("turn", 2), ("unroom", 2),
                     ("unroom", 0), ("turn", 0), ("unroom", 0), ("unroom", 0), ("unroom", TOP))
        self.assertEqual(told[3:], [[-2], [2], [7], [4], [-2], [-2], [1], [9], [0], [-2], [-2]])

    def test_unroom_takes_doors_along(self):
        # The first room is barred both ways, the second one has no doors.
        told = begun(("room", 50, 50), ("door", 0, 0, 50), ("side", 0, 0, 50), ("room", 10, 5), ("set_turn",),
                     ("unroom", 0), ("set_turn",), ("door", 0, 0, 5))
        self.assertEqual(told[4:], [[-33], [1], [5, 0], [0]])

    def test_turn_answers_what_along_was(self):
        told = begun(("room", 5, 7), ("turn", 0), ("turn", 0), ("turn", 1), ("turn", TOP))
        self.assertEqual(told[1:], [[7], [5], [-2], [-2]])

    def test_a_new_room_has_no_doors_and_sides(self):
        told = begun(("room", 20, 20), ("door", 0, 0, 1), ("side", 0, 0, 1), ("unroom", 0), ("room", 20, 20),
                     ("door", 0, 0, 1), ("side", 0, 0, 1))
        self.assertEqual(told[-2:], [[0], [0]])


class Doors(unittest.TestCase):
    def test_five_doors_and_five_sides(self):
        for name in ("door", "side"):
            told = begun(("room", 20, 30), *[(name, 0, low, low + 1) for low in range(5)], (name, 0, 0, 1),
                         (name, 0, 1, 1), (name, 0, 0, 31))
            self.assertEqual(told[1:], [[0], [1], [2], [3], [4], [-28], [-22], [-22]], name)

    def test_doors_and_sides_are_numbered_apart(self):
        told = begun(("room", 20, 30), ("room", 20, 30), ("door", 0, 0, 1), ("side", 0, 0, 1), ("door", 0, 0, 1),
                     ("side", 0, 0, 1), ("door", 1, 0, 1), ("side", 1, 0, 1))
        self.assertEqual(told[2:], [[0], [0], [1], [1], [0], [0]])

    def test_a_door_reaches_across_at_most(self):
        told = begun(("room", 20, 30), ("door", 0, 0, 20), ("door", 0, 19, 20), ("door", 0, 0, 21), ("door", 0, 20, 21),
                     ("door", 0, 7, 7), ("door", 0, 8, 7), ("door", 0, 0, 0), ("door", 0, 0, TOP), ("door", 0, TOP, 1))
        self.assertEqual(told[1:], [[0], [1]] + [[-22]] * 7)

    def test_a_side_reaches_along_at_most(self):
        told = begun(("room", 20, 30), ("side", 0, 0, 30), ("side", 0, 29, 30), ("side", 0, 0, 31), ("side", 0, 30, 31),
                     ("side", 0, 7, 7), ("side", 0, 8, 7), ("side", 0, 0, 0), ("side", 0, 0, TOP), ("side", 0, TOP, 1))
        self.assertEqual(told[1:], [[0], [1]] + [[-22]] * 7)

    def test_no_such_room_comes_first(self):
        for name in ("door", "side"):
            told = begun((name, 0, 0, 1), ("room", 5, 5), (name, 1, 0, 1), (name, 1, 3, 3), (name, TOP, 0, 6))
            self.assertEqual(told, [[-2], [0], [-2], [-2], [-2]], name)

    def test_turned_they_are_told_by_the_other_length(self):
        told = begun(("room", 20, 30), ("door", 0, 0, 5), ("turn", 0), ("door", 0, 0, 30), ("side", 0, 0, 21),
                     ("side", 0, 0, 20), ("door", 0, 0, 31))
        self.assertEqual(told[1:], [[0], [30], [0], [-22], [1], [-22]])

    def test_a_refused_side_leaves_the_room_as_it_was(self):
        told = begun(("room", 20, 30), ("side", 0, 0, 31), ("side", 0, 4, 4), ("turn", 0))
        self.assertEqual(told[1:], [[-22], [-22], [30]])


class Wide(unittest.TestCase):
    def test_wide_answers_how_wide_it_was(self):
        self.assertEqual(begun(("wide", 1), ("wide", 60), ("wide", 7)), [[10], [1], [60]])

    def test_wide_not_as_told(self):
        self.assertEqual(begun(("wide", 0), ("wide", 61), ("wide", TOP), ("wide", 10)), [[-22], [-22], [-22], [10]])

    def test_rooms_take_other_strips_by_it(self):
        told = begun(("drop", 0), ("room", 30, 12), ("door", 0, 0, 1), ("side", 0, 0, 12), ("set_turn",),
                     ("wide", 30), ("set_turn",), ("wide", 15), ("set_turn",))
        self.assertEqual(told[4:], [[36, 0], [10], [12, 0], [30], [24, 0]])


if __name__ == "__main__":
    unittest.main()
