import unittest

from calling import NAMES, TAKES, begun, last, run

# Something of everything, by which all can be laid, fits and costs something; 14 calls.
SET_UP = (("begin", 12, 6, 20), ("dye", 2, 0, 0, 5), ("dye", 0, 3, 1, 7), ("dye", 1, 1, 0, 4), ("tint", 4, 3, 1, 10),
          ("tint", 2, 0, 0, 3), ("room", 30, 15), ("room", 25, 40), ("door", 0, 3, 5), ("side", 1, 2, 9),
          ("roll", 200, 7), ("roll", 150, 5), ("roll", 90, 11), ("drop", 5))
# All that can be seen; 21 calls.
SEEN = (("state",), ("look", 0), ("look", 1), ("look", 2), ("look_dye", 0), ("look_dye", 1), ("look_dye", 2),
        ("look_dye", 3), ("look_tint", 0), ("look_tint", 1), ("look_tint", 2), ("all",), ("need",), ("fits",),
        ("spare",), ("most",), ("first", 0), ("total",), ("centimetre",), ("lacking",), ("idle",))

CHANGES = (("dye", 1, 2, 3, 4), ("undye", 0), ("price", 1, 6), ("tint", 1, 0, 0, 9), ("untint", 0), ("grams", 1, 4),
           ("room", 10, 20), ("unroom", 0), ("door", 1, 0, 25), ("side", 0, 0, 15), ("turn", 0), ("set_turn",),
           ("wide", 60), ("drop", 4), ("pattern", 6), ("unroll", 1))
NO_CHANGES = (("price", 1, 7), ("grams", 0, 10), ("wide", 20), ("drop", 5), ("pattern", 12))
REFUSED = (("begin", 0, 0, 1), ("dye", 0, 0, 0, 1), ("undye", 3), ("price", 0, 1001), ("price", 3, 1),
           ("tint", 1, 1, 1, 0), ("untint", 2), ("grams", 0, 0), ("room", 0, 1), ("unroom", 2), ("door", 0, 5, 5), ("side", 0, 0, 16),
           ("turn", 2), ("wide", 0), ("drop", 12), ("pattern", 5), ("roll", 10, 0), ("unroll", 3))


def asking():
    """One of each call that only asks."""
    calls = []
    for name in NAMES[18:44] + ["state"]:
        given = ([0, 1, 2, 3],) if name == "order" else (1,) * TAKES[name]
        calls.append((name,) + given)
    return calls


def behind_set_up(*calls):
    return run(*SET_UP, *calls)[len(SET_UP):]


class EachKindOfChange(unittest.TestCase):
    def compare(self, calls):
        """What is seen ahead of the last of the calls, behind it, behind a back, behind an again."""
        told = run(*calls[:-1], *SEEN, calls[-1], *SEEN, ("back",), *SEEN, ("again",), *SEEN)[len(calls) - 1:]
        size = len(SEEN) + 1
        ahead, behind, back, again = [told[place:place + len(SEEN)] for place in range(0, 4 * size, size)]
        self.assertGreaterEqual(told[size - 1][0], 0, calls[-1])
        self.assertNotEqual(ahead, behind, calls[-1])
        self.assertEqual(back, ahead, calls[-1])
        self.assertEqual(again, behind, calls[-1])
        self.assertEqual((told[2 * size - 1], told[3 * size - 1]), ([min(len(calls) - 2, 9)], [0]), calls[-1])

    def test_changes_are_taken_back_and_done_again(self):
        for change in CHANGES:
            self.compare(SET_UP + (change,))
        self.compare(SET_UP[:-2] + (("roll", 10, 0),))

    def test_every_kind_is_tried(self):
        self.assertEqual(sorted([change[0] for change in CHANGES] + ["roll"]), sorted(NAMES[1:18]))

    def test_the_set_up(self):
        told = run(*SET_UP, *SEEN)
        self.assertTrue(all(answer[0] >= 0 for answer in told[:len(SET_UP)]), told)
        self.assertEqual([SEEN[number] for number, answer in enumerate(told[len(SET_UP):]) if answer[0] < 0],
                         [("look", 2), ("look_dye", 3), ("look_tint", 2)])


class NoChange(unittest.TestCase):
    def test_none_at_the_beginning(self):
        self.assertEqual(begun(("back",), ("again",)), [[-2], [-2]])

    def test_not_begun(self):
        self.assertEqual(run(("back",), ("again",), ("begin", 0, 0, 0), ("back",)), [[-61], [-61], [-22], [-61]])

    def test_what_leaves_all_as_it_was_is_none(self):
        for call in NO_CHANGES:
            told = behind_set_up(call, ("back",), ("state",))
            self.assertGreaterEqual(told[0][0], 0)
            self.assertEqual(told[1:], [[9], [12, 6, 20, 3, 2, 2, 3]], call)

    def test_a_room_turned_that_is_the_same_then(self):
        self.assertEqual(begun(("room", 7, 7), ("turn", 0), ("turn", 0), ("back",), ("look", 0)),
                         [[0], [7], [7], [0], [-2]])
        told = begun(("room", 7, 7), ("door", 0, 1, 2), ("side", 0, 1, 2), ("turn", 0), ("back",), ("look", 0))
        self.assertEqual(told[3:], [[7], [2], [7, 7, 1, 0, 1, 2]])

    def test_a_square_room_turned_that_is_not(self):
        told = begun(("room", 7, 7), ("door", 0, 1, 2), ("turn", 0), ("look", 0), ("back",), ("look", 0))
        self.assertEqual(told[2:], [[7], [7, 7, 0, 1, 1, 2], [2], [7, 7, 1, 0, 1, 2]])
        told = begun(("room", 7, 7), ("door", 0, 1, 2), ("side", 0, 1, 3), ("turn", 0), ("back",), ("look", 0))
        self.assertEqual(told[3:], [[7], [3], [7, 7, 1, 1, 1, 2, 1, 3]])

    def test_set_turn_by_which_none_is_turned(self):
        self.assertEqual(begun(("room", 7, 5), ("set_turn",), ("back",), ("look", 0)), [[0], [5, 0], [0], [-2]])
        self.assertEqual(begun(("set_turn",), ("back",)), [[0, 0], [-2]])

    def test_what_is_refused(self):
        for call in REFUSED:
            told = behind_set_up(call, ("back",), ("state",))
            self.assertLess(told[0][0], 0, call)
            self.assertEqual(told[1:], [[9], [12, 6, 20, 3, 2, 2, 3]], call)

    def test_what_only_asks(self):
        for call in asking():
            told = behind_set_up(call, ("back",), ("state",))
            self.assertEqual(told[1:], [[9], [12, 6, 20, 3, 2, 2, 3]], call)

    def test_none_of_these_takes_away_what_can_be_done_again(self):
        for call in NO_CHANGES[:3] + (("drop", 6), ("pattern", 12), ("price", 9, 9)) + REFUSED + tuple(asking()):
            if call != ("roll", 10, 0):
                told = behind_set_up(("back",), call, ("again",), ("state",), ("again",))
                self.assertEqual(told[2:], [[0], [12, 5, 20, 3, 2, 2, 3], [-2]], call)
        told = behind_set_up(("back",), ("roll", 10, 0), ("again",))
        self.assertEqual(told[1:], [[-28], [0]])

    def test_done_and_undone_by_hand_are_two_changes(self):
        told = begun(("drop", 4), ("drop", 3), ("back",), ("state",), ("back",), ("back",))
        self.assertEqual(told[2:], [[1], [12, 4, 10, 0, 0, 0, 0], [0], [-2]])


class TheLastTen(unittest.TestCase):
    def test_ten_and_no_more(self):
        prices = [("price", 0, number) for number in range(1, 13)]
        told = begun(("dye", 1, 0, 0, 0), *prices, *[("back",)] * 11, ("look_dye", 0), *[("again",)] * 11,
                     ("look_dye", 0))[13:]
        counts = [[number] for number in range(9, -1, -1)] + [[-2]]
        self.assertEqual(told, counts + [[2, 1, 0, 0]] + counts + [[12, 1, 0, 0]])

    def test_exactly_ten(self):
        told = begun(*[("drop", number) for number in (1, 2) * 5], *[("back",)] * 11, ("state",))
        self.assertEqual(told[10:], [[number] for number in range(9, -1, -1)] + [[-2], [12, 3, 10, 0, 0, 0, 0]])

    def test_each_one_stands_between(self):
        told = begun(*[("wide", number) for number in range(1, 15)], *[("back",), ("state",)] * 10)
        self.assertEqual([answer[2] for answer in told[15::2]], list(range(13, 3, -1)))

    def test_ten_again_behind_some_back_and_forth(self):
        changes = [("wide", number) for number in range(1, 13)]
        told = begun(*changes, *[("back",)] * 4, *[("again",)] * 3, ("wide", 30), *[("back",)] * 11, ("state",))
        self.assertEqual(told[12:19], [[9], [8], [7], [6], [3], [2], [1]])
        self.assertEqual(told[19], [11])
        # Of the first 12 the first 2 can't be taken back; the eleventh was done again, then came one more.
        self.assertEqual(told[20:], [[number] for number in range(9, -1, -1)] + [[-2], [12, 3, 2, 0, 0, 0, 0]])


class Again(unittest.TestCase):
    def test_till_another_change(self):
        told = begun(("wide", 1), ("wide", 2), ("wide", 3), ("back",), ("back",), ("wide", 4), ("again",), ("back",),
                     ("state",), ("again",), ("state",), ("again",))
        self.assertEqual(told[3:], [[2], [1], [1], [-2], [1], [12, 3, 1, 0, 0, 0, 0], [0], [12, 3, 4, 0, 0, 0, 0],
                                    [-2]])

    def test_the_one_taken_back_last_comes_first(self):
        told = begun(("wide", 1), ("wide", 2), ("wide", 3), ("back",), ("back",), ("back",), ("again",), ("state",),
                     ("again",), ("state",), ("again",), ("state",), ("again",))
        self.assertEqual([told[6], told[8], told[10], told[12]], [[2], [1], [0], [-2]])
        self.assertEqual([told[place][2] for place in (7, 9, 11)], [1, 2, 3])

    def test_done_again_it_can_be_taken_back_again(self):
        told = begun(("wide", 1), *[("back",), ("again",)] * 5, ("back",), ("back",), ("state",))
        self.assertEqual(told[1:], [[0], [0]] * 5 + [[0], [-2], [12, 3, 10, 0, 0, 0, 0]])

    def test_what_came_back_can_be_changed_by_itself(self):
        # A change behind a back leaves alone what was taken back ahead of it.
        told = begun(("room", 9, 7), ("door", 0, 0, 1), ("back",), ("door", 0, 0, 2), ("look", 0), ("back",),
                     ("look", 0), ("again",), ("look", 0))
        self.assertEqual(told[4:], [[9, 7, 1, 0, 0, 2], [1], [9, 7, 0, 0], [0], [9, 7, 1, 0, 0, 2]])


class Begin(unittest.TestCase):
    def test_a_begin_leaves_none_of_either(self):
        told = begun(("wide", 1), ("wide", 2), ("back",), ("begin", 12, 3, 10), ("back",), ("again",), ("wide", 5),
                     ("back",), ("back",), ("state",))
        self.assertEqual(told[3:], [[0], [-2], [-2], [10], [0], [-2], [12, 3, 10, 0, 0, 0, 0]])

    def test_also_one_that_finds_all_as_it_leaves_it(self):
        told = begun(("wide", 1), ("wide", 10), ("back",), ("back",), ("begin", 12, 3, 10), ("back",), ("again",))
        self.assertEqual(told[4:], [[0], [-2], [-2]])

    def test_a_refused_begin_leaves_both(self):
        told = begun(("wide", 1), ("wide", 2), ("back",), ("begin", 12, 12, 10), ("again",), ("begin", 61, 0, 1),
                     ("back",), ("back",), ("back",), ("state",))
        self.assertEqual(told[3:], [[-22], [0], [-22], [1], [0], [-2], [12, 3, 10, 0, 0, 0, 0]])


class State(unittest.TestCase):
    def test_how_many_there_are_of_all(self):
        self.assertEqual(last(("state",)), [12, 3, 10, 0, 0, 0, 0])
        self.assertEqual(run(*SET_UP, ("state",))[-1], [12, 5, 20, 3, 2, 2, 3])
        self.assertEqual(run(*SET_UP, ("pattern", 4), ("undye", 0), ("untint", 0), ("unroom", 0), ("unroll", 0),
                             ("unroll", 0), ("wide", 7), ("state",))[-1], [4, 1, 7, 2, 1, 1, 1])

    def test_at_the_edges(self):
        self.assertEqual(run(("begin", 60, 59, 60), ("state",))[-1], [60, 59, 60, 0, 0, 0, 0])
        self.assertEqual(run(("begin", 1, 0, 1), ("state",))[-1], [1, 0, 1, 0, 0, 0, 0])


if __name__ == "__main__":
    unittest.main()
