import unittest

from calling import NAMES, TAKES, TOP, begun, run, written
from carpetworks.works import answers


class Begin(unittest.TestCase):
    def test_answers_0_at_the_edges(self):
        for given in ((1, 0, 1), (60, 59, 60), (60, 0, 1), (2, 1, 60)):
            self.assertEqual(run(("begin",) + given), [[0]])

    def test_refused_where_a_number_is_not_as_told(self):
        for given in ((0, 0, 1), (61, 0, 1), (1, 1, 1), (60, 60, 1), (5, 6, 1), (5, 0, 0), (5, 0, 61),
                      (TOP, 0, 1), (5, TOP, 1), (5, 0, TOP)):
            self.assertEqual(run(("begin",) + given), [[-22]])

    def test_every_other_call_ahead_of_it_is_refused(self):
        for name in NAMES[1:]:
            given = ([0, 1],) if name == "order" else (1,) * TAKES[name]
            self.assertEqual(run((name,) + given, ("begin", 1, 0, 1)), [[-61], [0]], name)

    def test_not_begun_comes_ahead_of_every_other_refusal(self):
        self.assertEqual(run(("undye", 0), ("dye", 0, 0, 0, TOP), ("room", 0, 0), ("least", 1, 1, 1), ("order", [])),
                         [[-61]] * 5)

    def test_a_begin_that_is_refused_does_not_begin(self):
        self.assertEqual(run(("begin", 0, 0, 1), ("idle",), ("begin", 3, 3, 1), ("idle",), ("begin", 3, 2, 1),
                             ("idle",)), [[-22], [-61], [-22], [-61], [0], [0]])

    def test_a_call_ahead_of_it_changes_nothing(self):
        self.assertEqual(run(("dye", 1, 1, 1, 1), ("begin", 3, 0, 1), ("undye", 0)), [[-61], [0], [-2]])

    def test_a_second_begin_leaves_nothing(self):
        told = begun(("dye", 1, 0, 0, 1), ("tint", 1, 0, 0, 1), ("room", 5, 5), ("roll", 5, 0),
                     ("begin", 7, 6, 5), ("undye", 0), ("untint", 0), ("unroom", 0), ("unroll", 0),
                     ("wide", 1), ("drop", 0), ("pattern", 1), ("set_turn",))
        self.assertEqual(told[4:], [[0], [-2], [-2], [-2], [-2], [5], [6], [7], [0, 0]])

    def test_a_second_begin_that_is_refused_leaves_all(self):
        told = begun(("dye", 1, 0, 0, 1), ("tint", 0, 1, 0, 1), ("room", 5, 6), ("roll", 5, 0),
                     ("begin", 61, 6, 5), ("idle",), ("lacking",), ("set_turn",), ("unroll", 0),
                     ("wide", 1), ("drop", 0), ("pattern", 1))
        self.assertEqual(told[4:], [[-22], [0], [1, 0], [5, 1], [0], [10], [3], [12]])


class Form(unittest.TestCase):
    def test_each_answer_has_its_count_ahead(self):
        self.assertEqual(answers([22, 0, 4, 2, 10, 1, 2, 0, 0, 5, 19, 3, 0, 0, 19, 0, 1, 0, 20, 0, 1, 0]),
                         [1, -61, 1, 0, 1, 0, 6, 1, 15, 2, 0, 3, 2, 1, -33, 5, 0, 0, 2, 0, 2])

    def test_the_list_is_left_as_it_was_and_nothing_is_kept(self):
        handed = written([("begin", 6, 2, 9), ("dye", 4, 2, 2, 7), ("dye", 0, 1, 3, 2), ("tint", 4, 3, 5, 2),
                          ("room", 20, 11), ("door", 0, 2, 10), ("side", 0, 0, 11), ("roll", 40, 5),
                          ("set_turn",), ("least", 4, 3, 5), ("pattern", 3), ("wide", 4), ("undye", 0)])
        kept = list(handed)
        told = answers(handed)
        self.assertEqual(handed, kept)
        self.assertEqual(answers(handed), told)
        self.assertEqual(handed, kept)
        self.assertEqual(answers([22]), [1, -61])

    def test_what_is_answered_is_a_list_of_its_own(self):
        handed = [0, 6, 2, 9]
        told = answers(handed)
        told.append(5)
        self.assertEqual(answers(handed), [1, 0])

    def test_120_calls(self):
        calls = [("begin", 12, 3, 10)] + [("makes", 0, 0, 0)] * 119
        self.assertEqual(run(*calls), [[0]] + [[1]] * 119)


if __name__ == "__main__":
    unittest.main()
