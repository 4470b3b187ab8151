import itertools
import random
import unittest

from calling import TOP, begun, last
from reckoning import expected_idle, expected_least, expected_mixes, expected_needed, expected_shows

QUESTIONS = ("makes", "least", "shows", "needed")


def laid_out(dyes):
    return tuple(("dye",) + dye for dye in dyes)


class AgainstAnotherReckoning(unittest.TestCase):
    def compare(self, dyes, colours):
        calls = list(laid_out(dyes)) + [("idle",)]
        expected = [expected_idle(dyes)]
        for colour in colours:
            mixes = expected_mixes(dyes, colour)
            calls += [(name,) + tuple(colour) for name in QUESTIONS]
            expected += [[1 if mixes else 0], expected_least(dyes, colour), expected_shows(dyes, colour),
                         expected_needed(dyes, colour)]
            self.assertEqual(bool(mixes), expected[-2] == [-33], "made, or shown that it can't be")
        self.assertEqual(begun(*calls)[len(dyes):], expected, (dyes, colours))

    def test_small_parts(self):
        chance = random.Random(60)
        for size in range(6):
            for turn in range(60):
                dyes = []
                while len(dyes) < size:
                    parts = tuple(chance.randint(0, 2) for part in range(3))
                    if any(parts):
                        dyes.append(parts + (chance.randint(0, 3),))
                self.compare(dyes, [tuple(chance.randint(0, 4) for part in range(3)) for colour in range(8)])

    def test_great_parts(self):
        chance = random.Random(61)
        for turn in range(150):
            dyes = [tuple(chance.randint(1, 50) for part in range(3)) + (chance.randint(0, 1000),)
                    for dye in range(chance.randint(3, 5))]
            colours = [tuple(chance.randint(0, 1000) for part in range(3)) for colour in range(5)]
            weights = [chance.randint(0, 4) for dye in dyes]
            colours.append(tuple(sum(w * dye[part] for w, dye in zip(weights, dyes)) for part in range(3)))
            self.compare(dyes, colours)


class Makes(unittest.TestCase):
    def test_no_dyes(self):
        self.assertEqual(begun(("makes", 0, 0, 0), ("makes", 1, 0, 0), ("makes", 0, 0, 1000)), [[1], [0], [0]])

    def test_all_parts_0(self):
        self.assertEqual(last(("dye", 5, 5, 5, 5), ("makes", 0, 0, 0)), [1])

    def test_only_by_amounts_not_below_0(self):
        told = begun(("dye", 1, 1, 0, 1), ("dye", 0, 1, 0, 1), ("makes", 1, 1, 0), ("makes", 1, 0, 0),
                     ("makes", 1, 5, 0), ("makes", 5, 4, 0))
        self.assertEqual(told[2:], [[1], [0], [1], [0]])

    def test_two_of_which_one_is_a_multiple(self):
        told = begun(("dye", 1, 2, 3, 1), ("dye", 2, 4, 6, 1), ("makes", 3, 6, 9), ("makes", 3, 6, 8))
        self.assertEqual(told[2:], [[1], [0]])

    def test_three_in_one_plane(self):
        told = begun(("dye", 1, 0, 0, 1), ("dye", 0, 1, 0, 1), ("dye", 1, 1, 0, 1), ("makes", 3, 7, 0),
                     ("makes", 3, 7, 1))
        self.assertEqual(told[3:], [[1], [0]])

    def test_colours_at_the_edges(self):
        dyes = (("dye", 1, 0, 0, 1), ("dye", 0, 1, 0, 1), ("dye", 0, 0, 1, 1))
        self.assertEqual(last(*dyes, ("makes", 1000, 1000, 1000)), [1])
        for name in QUESTIONS:
            for colour in ((1001, 0, 0), (0, 1001, 0), (0, 0, 1001), (TOP, TOP, TOP)):
                self.assertEqual(last(*dyes, (name,) + colour), [-22])
                self.assertEqual(last((name,) + colour), [-22], "ahead of -33")


class Least(unittest.TestCase):
    def test_cannot_be_made(self):
        self.assertEqual(last(("least", 1, 0, 0)), [-33])
        self.assertEqual(last(("dye", 1, 1, 0, 1), ("least", 1, 0, 0)), [-33])

    def test_all_parts_0_is_made_of_nothing(self):
        self.assertEqual(last(("least", 0, 0, 0)), [0, 0, 1])
        self.assertEqual(last(("dye", 1, 1, 1, 0), ("dye", 0, 1, 1, 0), ("least", 0, 0, 0)), [0, 0, 1])

    def test_fractions_in_lowest_terms(self):
        self.assertEqual(last(("dye", 6, 0, 0, 4), ("least", 8, 0, 0)), [1, 16, 3, 0, 4, 3])
        self.assertEqual(last(("dye", 6, 0, 0, 3), ("least", 8, 0, 0)), [1, 4, 1, 0, 4, 3])
        self.assertEqual(last(("dye", 6, 0, 0, 0), ("least", 8, 0, 0)), [1, 0, 1, 0, 4, 3])

    def test_by_two(self):
        self.assertEqual(last(("dye", 2, 1, 0, 3), ("dye", 1, 2, 0, 5), ("least", 4, 4, 0)),
                         [2, 32, 3, 0, 4, 3, 1, 4, 3])

    def test_by_three_however_they_are_turned(self):
        for dyes in itertools.permutations(((2, 1, 0, 3), (0, 3, 1, 5), (1, 0, 4, 7))):
            told = last(*laid_out(dyes), ("least", 3, 4, 5))
            self.assertEqual(told, expected_least(list(dyes), (3, 4, 5)))
            self.assertEqual([told[0]] + told[3::3], [3, 0, 1, 2])

    def test_one_that_has_0_of_a_dye_is_told_without_it(self):
        self.assertEqual(last(("dye", 0, 1, 0, 9), ("dye", 0, 0, 1, 0), ("dye", 1, 0, 0, 2), ("least", 3, 0, 0)),
                         [1, 6, 1, 2, 3, 1])

    def test_the_first_of_equally_cheap_ones(self):
        self.assertEqual(last(("dye", 1, 1, 0, 4), ("dye", 2, 2, 0, 8), ("least", 4, 4, 0)), [1, 16, 1, 0, 4, 1])
        self.assertEqual(last(("dye", 1, 0, 0, 2), ("dye", 0, 1, 0, 2), ("dye", 1, 1, 0, 4), ("least", 4, 4, 0)),
                         [1, 16, 1, 2, 4, 1])
        self.assertEqual(last(("dye", 1, 0, 0, 0), ("dye", 0, 1, 0, 0), ("dye", 0, 2, 0, 0), ("least", 4, 4, 0)),
                         [2, 0, 1, 0, 4, 1, 1, 4, 1])

    def test_the_cheaper_one_though_it_comes_later(self):
        self.assertEqual(last(("dye", 1, 1, 0, 5), ("dye", 2, 2, 0, 8), ("least", 4, 4, 0)), [1, 16, 1, 1, 2, 1])
        self.assertEqual(last(("dye", 1, 1, 0, 5), ("dye", 1, 0, 0, 2), ("dye", 0, 1, 0, 2), ("least", 4, 4, 0)),
                         [2, 16, 1, 1, 4, 1, 2, 4, 1])
        self.assertEqual(last(("dye", 1, 1, 1, 9), ("dye", 1, 0, 0, 1), ("dye", 0, 1, 0, 1), ("dye", 0, 0, 1, 1),
                              ("least", 2, 2, 2)), [3, 6, 1, 1, 2, 1, 2, 2, 1, 3, 2, 1])


class Shows(unittest.TestCase):
    def test_none_where_it_can_be_made(self):
        self.assertEqual(last(("shows", 0, 0, 0)), [-33])
        self.assertEqual(last(("dye", 1, 2, 3, 1), ("shows", 2, 4, 6)), [-33])

    def test_parts_without_dyes(self):
        self.assertEqual(begun(("shows", 7, 0, 0), ("shows", 0, 8, 1), ("shows", 0, 0, 1000), ("shows", 5, 6, 7)),
                         [[0, 1, 0, 0, 7], [0, 0, 1, 0, 8], [0, 0, 0, 1, 1000], [0, 1, 0, 0, 5]])

    def test_between_two_dyes_as_it_is_and_turned_about(self):
        self.assertEqual(last(("dye", 1, 0, 0, 1), ("dye", 0, 2, 0, 1), ("shows", 1, 1, 3)), [0, 0, 0, 2, 6])
        self.assertEqual(last(("dye", 0, 2, 0, 1), ("dye", 1, 0, 0, 1), ("shows", 1, 1, 3)), [0, 0, 0, 2, 6])
        self.assertEqual(last(("dye", 1, 0, 1, 1), ("dye", 0, 1, 1, 1), ("shows", 1, 1, 3)), [0, -1, -1, 1, 1])
        self.assertEqual(last(("dye", 0, 1, 1, 1), ("dye", 1, 0, 1, 1), ("shows", 1, 1, 3)), [0, -1, -1, 1, 1])
        self.assertEqual(last(("dye", 1, 0, 1, 1), ("dye", 0, 1, 1, 1), ("shows", 1, 1, 1)), [0, 1, 1, -1, 1])

    def test_between_a_dye_and_a_part(self):
        self.assertEqual(last(("dye", 1, 1, 0, 1), ("shows", 1, 1, 2)), [0, 0, 0, 1, 2])
        self.assertEqual(last(("dye", 2, 0, 0, 1), ("shows", 1, 3, 0)), [0, 0, 2, 0, 6])
        self.assertEqual(last(("dye", 1, 1, 0, 1), ("shows", 2, 1, 0)), [0, 1, -1, 0, 1])

    def test_the_first_dye_and_part_come_first(self):
        self.assertEqual(last(("dye", 0, 1, 1, 1), ("shows", 0, 2, 1)), [0, 0, 1, -1, 1])
        self.assertEqual(last(("dye", 0, 1, 1, 1), ("shows", 3, 1, 1)), [0, 1, 0, 0, 3])


class Needed(unittest.TestCase):
    def test_cannot_be_made(self):
        self.assertEqual(last(("needed", 1, 0, 0)), [-33])
        self.assertEqual(last(("dye", 0, 1, 0, 0), ("needed", 1, 0, 0)), [-33])

    def test_none(self):
        self.assertEqual(last(("needed", 0, 0, 0)), [0])
        self.assertEqual(last(("dye", 1, 0, 0, 0), ("dye", 2, 0, 0, 0), ("needed", 1, 0, 0)), [0])

    def test_rising(self):
        dyes = (("dye", 1, 0, 0, 0), ("dye", 0, 1, 0, 0), ("dye", 0, 2, 0, 0), ("dye", 0, 0, 1, 0))
        told = begun(*dyes, ("needed", 1, 1, 1), ("needed", 1, 1, 0), ("needed", 0, 1, 0), ("needed", 0, 0, 1))
        self.assertEqual(told[4:], [[2, 0, 3], [1, 0], [0], [1, 3]])


class Idle(unittest.TestCase):
    def test_none(self):
        self.assertEqual(last(("idle",)), [0])
        self.assertEqual(last(("dye", 1, 0, 0, 0), ("idle",)), [0])

    def test_multiples_each_idle_by_itself(self):
        self.assertEqual(last(("dye", 1, 2, 0, 0), ("dye", 0, 0, 1, 0), ("dye", 2, 4, 0, 0), ("idle",)), [2, 0, 2])

    def test_between_others(self):
        self.assertEqual(last(("dye", 1, 0, 0, 0), ("dye", 1, 1, 0, 0), ("dye", 0, 1, 0, 0), ("idle",)), [1, 1])

    def test_not_by_amounts_below_0(self):
        self.assertEqual(last(("dye", 1, 0, 0, 0), ("dye", 1, 1, 0, 0), ("dye", 1, 0, 1, 0), ("dye", 1, 1, 1, 0),
                              ("idle",)), [0])


if __name__ == "__main__":
    unittest.main()
