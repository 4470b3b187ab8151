import random
import unittest

from calling import begun, last, room_calls, run
from reckoning import expected_turning


class AgainstAnotherReckoning(unittest.TestCase):
    def some_spans(self, chance, most):
        spans = []
        for span in range(chance.choice((0, 0, 1, 2, 5))):
            low = chance.randint(0, most - 1)
            spans.append((low, chance.randint(low + 1, most)))
        return spans

    def test_many(self):
        chance = random.Random(62)
        seen = {}
        for turn in range(150):
            repeat = chance.randint(1, 20)
            drop = chance.randint(0, repeat - 1)
            wide = chance.randint(8, 30)
            rooms = []
            for number in range(chance.randint(0, 3)):
                across = chance.randint(1, 45)
                along = chance.randint(1, 45)
                rooms.append((across, along, self.some_spans(chance, across), self.some_spans(chance, along)))
            expected = expected_turning(repeat, drop, wide, rooms)
            told = run(("begin", repeat, drop, wide), *room_calls(rooms), ("set_turn",), ("set_turn",))
            self.assertEqual(told[-2], expected, (repeat, drop, wide, rooms))
            self.assertEqual(told[-1], [expected[0], 0][:len(expected)], "turned so, no other turning needs less")
            seen[expected[-1]] = True
        self.assertTrue(all(answer in seen for answer in (-33, 0, 1, 2, 3)), seen)


class SetTurn(unittest.TestCase):
    def test_no_rooms(self):
        self.assertEqual(last(("set_turn",)), [0, 0])

    def test_a_room_turned_that_needs_less(self):
        # Two strips of 15 need 39 of a pattern of 12; one of 30 needs 30.
        told = begun(("wide", 20), ("drop", 0), ("room", 30, 15), ("set_turn",), ("turn", 0), ("set_turn",))
        self.assertEqual(told[3:], [[30, 1], [30], [30, 1]])
        # With 35 for 30 it still does, with 40 it does not.
        self.assertEqual(last(("wide", 20), ("drop", 0), ("room", 35, 15), ("set_turn",)), [35, 1])
        self.assertEqual(last(("wide", 20), ("drop", 0), ("room", 40, 15), ("set_turn",)), [39, 0])

    def test_rooms_are_turned_so(self):
        # As it is it takes two strips of 20, 4 apart; turned one of 30.
        told = begun(("wide", 20), ("drop", 0), ("room", 30, 20), ("set_turn",), ("turn", 0), ("set_turn",),
                     ("turn", 0))
        self.assertEqual(told[3:], [[30, 1], [30], [30, 1], [30]])

    def test_of_sets_that_need_as_much_the_least(self):
        told = begun(("drop", 0), ("room", 10, 10), ("room", 5, 5), ("set_turn",))
        self.assertEqual(told[-1], [17, 0])
        # Just one of the two rooms may be turned for six strips; either needs as much.
        rooms = [(50, 12, [], []), (50, 12, [], [])]
        told = begun(("wide", 12), ("drop", 0), *room_calls(rooms), ("set_turn",))
        self.assertEqual(told[-1], expected_turning(12, 0, 12, rooms))
        self.assertEqual(told[-1][1], 1)

    def test_bit_r_stands_for_room_r(self):
        told = begun(("wide", 20), ("drop", 0), ("room", 5, 5), ("room", 30, 20), ("room", 5, 5), ("set_turn",),
                     ("turn", 1))
        self.assertEqual(told[-2][1], 2)
        self.assertEqual(told[-1], [30])
        told = begun(("wide", 20), ("drop", 0), ("room", 5, 5), ("room", 5, 5), ("room", 30, 20), ("set_turn",))
        self.assertEqual(told[-1][1], 4)

    def test_a_room_that_cannot_be_laid_one_way(self):
        # 15 across there must be a seam, which the door bars; 10 across there is none.
        told = begun(("drop", 0), ("room", 15, 10), ("door", 0, 0, 15), ("set_turn",), ("set_turn",), ("turn", 0))
        self.assertEqual(told[3:], [[15, 1], [15, 0], [15]])
        told = begun(("drop", 0), ("room", 10, 15), ("side", 0, 0, 15), ("set_turn",), ("turn", 0), ("set_turn",))
        self.assertEqual(told[3:], [[15, 0], [15], [15, 1]])

    def test_none_can_be_laid(self):
        told = begun(("room", 15, 18), ("door", 0, 0, 15), ("side", 0, 0, 18), ("set_turn",), ("turn", 0), ("set_turn",))
        self.assertEqual(told[3:], [[-33], [18], [-33]])

    def test_one_barred_room_is_enough(self):
        told = begun(("room", 5, 5), ("room", 15, 18), ("door", 1, 0, 15), ("side", 1, 0, 18), ("set_turn",),
                     ("unroom", 1), ("set_turn",))
        self.assertEqual(told[4:], [[-33], [1], [5, 0]])

    def test_a_seam_may_lie_where_a_door_begins_or_ends(self):
        # Of a room 15 across seams lie at 5 to 10; all but one are within these doors.
        told = begun(("drop", 0), ("room", 15, 15), ("door", 0, 0, 7), ("door", 0, 7, 15), ("side", 0, 0, 15),
                     ("set_turn",))
        self.assertEqual(told[-1], [39, 0])
        told = begun(("drop", 0), ("room", 15, 15), ("door", 0, 0, 7), ("door", 0, 6, 15), ("side", 0, 0, 15),
                     ("set_turn",))
        self.assertEqual(told[-1], [-33])

    def test_six_strips_and_seven(self):
        told = run(("begin", 1, 0, 10), ("room", 60, 200), ("side", 0, 0, 200), ("set_turn",))
        self.assertEqual(told[-1], [1200, 0])
        told = run(("begin", 1, 0, 10), ("room", 61, 200), ("side", 0, 0, 200), ("set_turn",))
        self.assertEqual(told[-1], [-33])
        told = run(("begin", 1, 0, 10), ("room", 61, 5), ("set_turn",))
        self.assertEqual(told[-1], [61, 1])
        told = run(("begin", 1, 0, 10), ("room", 20, 20), ("room", 20, 20), ("room", 20, 20), ("set_turn",))
        self.assertEqual(told[-1], [120, 0])
        told = run(("begin", 1, 0, 10), ("room", 20, 20), ("room", 20, 20), ("room", 21, 21), ("set_turn",))
        self.assertEqual(told[-1], [-33])

    def test_more_strips_where_a_door_bars_the_fewest(self):
        # Two strips of 10 would do, by the one seam at 10; with the door there must be three.
        told = run(("begin", 1, 0, 10), ("room", 20, 100), ("side", 0, 0, 100), ("set_turn",), ("door", 0, 9, 11),
                   ("set_turn",))
        self.assertEqual(told[3:], [[200, 0], [0], [300, 0]])

    def test_a_room_narrower_than_the_carpet_takes_one(self):
        self.assertEqual(last(("room", 9, 7), ("door", 0, 0, 9), ("side", 0, 0, 7), ("set_turn",)), [7, 0])

    def test_a_drop_of_half_the_repeat(self):
        # Four strips of 18 begin at 0 and 6 in turn, so nothing is lost between them.
        told = run(("begin", 12, 6, 10), ("room", 40, 18), ("side", 0, 0, 18), ("set_turn",), ("drop", 0),
                   ("set_turn",))
        self.assertEqual(told[3:], [[72, 0], [6], [90, 0]])

    def test_strips_begin_by_the_drop_further_on(self):
        # Six strips of 60 begin at 0, 3, 6, 9, 0, 3 of 12: 9 is lost at the least.
        self.assertEqual(last(("room", 60, 60), ("set_turn",)), [369, 0])

    def test_each_room_begins_at_place_0_again(self):
        # Strips of 6 at 0 and 6, twice: nothing is lost.
        told = run(("begin", 12, 6, 10), ("room", 20, 6), ("room", 20, 6), ("set_turn",))
        self.assertEqual(told[-1], [24, 0])

    def test_another_order_than_told_needs_less(self):
        # Strips of 4 at places 0, 8, 4 of 12: the best order is the first, the third, the second.
        told = run(("begin", 12, 8, 10), ("room", 30, 4), ("side", 0, 0, 4), ("set_turn",))
        self.assertEqual(told[-1], [12, 0])

    def test_a_pattern_of_1(self):
        told = run(("begin", 12, 0, 10), ("room", 30, 5), ("side", 0, 0, 5), ("set_turn",), ("pattern", 1),
                   ("set_turn",))
        self.assertEqual(told[3:], [[29, 0], [12], [15, 0]])


if __name__ == "__main__":
    unittest.main()
