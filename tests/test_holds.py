"""What holds, whatever is handed in: points a to e of the document, and what holds in each part."""

import itertools
import random
import unittest

from calling import room_calls, run
from reckoning import best_cut, layings


def some_spans(chance, most, counts=(0, 0, 1, 2)):
    spans = []
    for span in range(chance.choice(counts)):
        low = chance.randrange(most)
        spans.append((low, min(low + chance.randint(1, 9), most)))
    return spans


def some_room(chance, most=45):
    across = chance.randint(1, most)
    along = chance.randint(1, most)
    return across, along, some_spans(chance, across), some_spans(chance, along)


def some_begin(chance):
    repeat = chance.choice((1, 4, 6, 12, 20, 24, 36, 60, chance.randint(1, 60)))
    return ("begin", repeat, chance.choice((0, repeat // 2, chance.randrange(repeat))), chance.randint(8, 30))


def some_dyes(chance, count):
    dyes = []
    while len(dyes) < count:
        parts = tuple(chance.choice((0, 0, 1, 2, 3, 7)) for part in range(3))
        if any(parts):
            dyes.append(("dye",) + parts + (chance.randint(0, 9),))
    return dyes


def some_tints(chance, count):
    return [("tint",) + tuple(chance.randint(0, 6) for part in range(3)) + (chance.randint(1, 9),)
            for tint in range(count)]


class Rooms(unittest.TestCase):
    def test_a_no_clear_first_strips_need_less(self):
        chance = random.Random(1)
        compared = 0
        for turn in range(150):
            begin = some_begin(chance)
            repeat, drop, wide = begin[1:]
            rooms = [some_room(chance, 60) for room in range(chance.randint(1, 3))]
            told = run(begin, *room_calls(rooms), ("need",))[-1]
            counts = [{len(widths) for widths in layings(across, doors, wide).values()}
                      for across, along, doors, sides in rooms]
            for chosen in itertools.product(*counts):
                if sum(chosen) <= 6:
                    strips = tuple((room[1], number * drop % repeat) for room, count in zip(rooms, chosen)
                                   for number in range(count))
                    self.assertLessEqual(told[0], best_cut(strips, repeat)[0], (begin, rooms))
                    self.assertGreaterEqual(told[0], 0, (begin, rooms))
                    compared += 1
        self.assertGreater(compared, 150)

    def test_b_in_whatever_order_rooms_are_told(self):
        chance = random.Random(2)
        laid = 0
        for turn in range(60):
            begin = some_begin(chance)
            rooms = [some_room(chance) for room in range(3)]
            paint = some_dyes(chance, 4) + some_tints(chance, 1)
            seen = {}
            for order in itertools.permutations(rooms):
                told = run(begin, *paint, *room_calls(order), ("need",), ("total",), ("best_turn",), ("centimetre",))
                seen[told[-4][0], tuple(told[-3]), told[-2][0], tuple(told[-1])] = True
            self.assertEqual(len(seen), 1, (begin, rooms, seen))
            laid += list(seen)[0][1] != (-33,)
        self.assertGreater(laid, 5)

    def test_c_a_pattern_that_repeats_sooner_never_needs_more(self):
        chance = random.Random(3)
        for turn in range(100):
            begin = some_begin(chance)
            repeat = begin[1]
            rooms = room_calls([some_room(chance) for room in range(chance.randint(0, 3))])
            divisors = [n for n in range(1, repeat + 1) if repeat % n == 0]
            told = run(begin, *rooms, *[("finer", n) for n in divisors], ("need",))
            needs = dict(zip(divisors, [answer[0] for answer in told[-1 - len(divisors):-1]]))
            self.assertEqual(needs[repeat], told[-1][0])
            for n, m in itertools.product(divisors, divisors):
                if m % n == 0:
                    self.assertLessEqual(needs[n], needs[m], (begin, rooms, n, m))
            n = chance.choice(divisors)
            self.assertEqual(run(begin, *rooms, ("pattern", n), ("need",))[-1][0], needs[n], "as pattern")

    def test_e_turned_best_no_turning_needs_less(self):
        chance = random.Random(4)
        for turn in range(100):
            begin = some_begin(chance)
            rooms = [some_room(chance) for room in range(chance.randint(0, 3))]
            calls = room_calls(rooms)
            looks = [("look", number) for number in range(len(rooms))] + [("need",), ("state",)]
            best = run(begin, *calls, ("best_turn",))[-1]
            needs = {}
            for chosen in range(2 ** len(rooms)):
                turns = [("turn", number) for number in range(len(rooms)) if chosen // 2 ** number % 2 == 1]
                needs[chosen] = run(begin, *calls, *turns, ("need",))[-1][0]
            can = [need for need in needs.values() if need >= 0]
            self.assertEqual(best[0], min(can, default=-33), (begin, rooms))
            if can:
                self.assertEqual(best[1], min(chosen for chosen in needs if needs[chosen] == best[0]))
                told = run(begin, *calls, *looks, ("set_turn",), ("need",), ("best_turn",), ("back",), *looks)
                told = told[1 + len(calls):]
                size = len(looks)
                self.assertEqual(told[size], best)
                self.assertEqual(told[size + 1][0], best[0])
                self.assertEqual(told[size + 2], [best[0], 0])
                if best[1] > 0:
                    self.assertEqual(told[size + 4:], told[:size], "taken back, all is as it was")

    def test_no_fewer_strips_and_clear_just_by_what_is_left(self):
        chance = random.Random(5)
        for turn in range(200):
            across = chance.randint(1, 200)
            wide = chance.randint(1, 60)
            doors = some_spans(chance, across, (0, 1, 2, 5))
            calls = room_calls([(across, 5, doors, [])])
            told = run(("begin", 5, 1, wide), *calls, ("first", 0), ("firsts", 0), ("seams", 0), ("strips", 0))[-4:]
            barred = {place % wide for low, high in doors for place in range(low + 1, high)}
            clear = [first for first in range(1, wide + 1) if first % wide not in barred]
            self.assertEqual(told[1], [len(clear)] + clear, (across, wide, doors))
            self.assertEqual(told[0] == [-33], clear == [])
            if clear:
                first, count, narrow = told[0]
                self.assertIn(first, clear)
                self.assertEqual(count, min(len(range(first, across, wide)) + 1 for first in clear))
                self.assertEqual(told[2], [count - 1] + list(range(first, across, wide)))
                self.assertEqual(told[3][0], count)
            if not doors:
                self.assertEqual(told[0][1], -(-across // wide))


class Orders(unittest.TestCase):
    def test_no_order_needs_less_and_the_last_strip_tells(self):
        chance = random.Random(6)
        for turn in range(40):
            begin = some_begin(chance)
            rooms = room_calls([some_room(chance, 40) for room in range(chance.randint(1, 3))])
            told = run(begin, *rooms, ("all",), ("need",))
            strips, need = told[-2], told[-1]
            if strips == [-33] or strips[0] > 4:
                continue
            orders = [list(order) for order in itertools.permutations(range(strips[0]))]
            answers = run(begin, *rooms, *[("order", order) for order in orders])[1 + len(rooms):]
            lengths = strips[1::2]
            for order, (much, lost) in zip(orders, answers):
                self.assertGreaterEqual(much, need[0])
                self.assertEqual(much - lost, sum(lengths))
                ends = strips[1 + 2 * order[-1]] + strips[2 + 2 * order[-1]]
                self.assertEqual(much % begin[1], ends % begin[1])
            self.assertEqual(need[1:], orders[answers.index(min(answers))])


class Colours(unittest.TestCase):
    def test_d_a_dye_more_never_makes_it_dearer(self):
        chance = random.Random(7)
        compared = 0
        for turn in range(200):
            paint = some_dyes(chance, chance.randint(1, 4)) + some_tints(chance, chance.randint(0, 2))
            calls = [("begin", 12, 5, 20)] + paint + [("room", 30, 17)]
            more = some_dyes(chance, 1)[0]
            told = run(*calls, ("total",), ("cheaper",) + more[1:], more, ("total",), ("without", 0),
                       ("undye", 0), ("total",))[len(calls):]
            before, asked, number, after, lesser, count, gone = told
            self.assertEqual(asked, after)
            self.assertEqual(lesser, gone)
            for dearer, cheaper in ((before, after), (lesser, after)):
                if dearer != [-33]:
                    self.assertLessEqual(cheaper[1] * dearer[2], dearer[1] * cheaper[2], (paint, more))
                    self.assertEqual(cheaper[0], 0)
                    compared += 1
        self.assertGreater(compared, 100)

    def test_d_what_a_centimetre_costs_is_told_just_if_no_colour_lacks(self):
        chance = random.Random(8)
        seen = {}
        for turn in range(200):
            paint = some_dyes(chance, chance.randint(0, 5)) + some_tints(chance, chance.randint(0, 3))
            lacking, centimetre, total = run(("begin", 12, 5, 20), *paint, ("lacking",), ("centimetre",),
                                             ("total",))[-3:]
            self.assertEqual(centimetre == [-33], lacking[0] > 0)
            self.assertEqual(total, [-33] if lacking[0] > 0 else [0, 0, 1])
            seen[lacking[0]] = True
        self.assertEqual(sorted(seen), [0, 1, 2, 3])

    def test_a_colour_can_be_made_or_a_light_shows_that_it_cannot(self):
        chance = random.Random(9)
        for turn in range(100):
            dyes = some_dyes(chance, chance.randint(0, 5))
            colours = [tuple(chance.randint(0, 9) for part in range(3)) for colour in range(20)]
            calls = [(name,) + colour for colour in colours for name in ("makes", "shows", "least", "needed")]
            told = run(("begin", 12, 5, 20), *dyes, *calls)[1 + len(dyes):]
            for place in range(0, len(told), 4):
                makes, shows, least, needed = told[place:place + 4]
                self.assertEqual(makes == [1], shows == [-33])
                self.assertEqual(makes == [0], least == [-33])
                self.assertEqual(makes == [0], needed == [-33])


if __name__ == "__main__":
    unittest.main()
