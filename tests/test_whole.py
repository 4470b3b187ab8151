"""Long lists of calls of all kinds, compared call by call with a second reckoning."""

import random
import unittest

from calling import NAMES, TOP, run
from reckoning import Model, strips_of_all

# How each call can be refused behind a begin, by the document's promises.
REFUSALS = {
    "begin": (-22,), "dye": (-22, -28), "undye": (-2,), "price": (-2, -22), "tint": (-22, -28), "untint": (-2,),
    "grams": (-2, -22), "room": (-22, -28), "unroom": (-2,), "door": (-2, -22, -28), "side": (-2, -22, -28),
    "turn": (-2,), "set_turn": (-33,), "wide": (-22,), "drop": (-22,), "pattern": (-22,), "roll": (-22, -28),
    "unroll": (-2,), "makes": (-22,), "least": (-22, -33), "shows": (-22, -33), "needed": (-22, -33), "idle": (),
    "lacking": (), "centimetre": (-33,), "first": (-2, -33), "firsts": (-2,), "seams": (-2, -33), "widths": (-2, -22),
    "strips": (-2, -33), "all": (-33,), "need": (-33,), "order": (-33, -22), "finer": (-22, -33), "best_turn": (-33,),
    "fits": (-6, -33), "spare": (-6, -33), "most": (-6, -33), "total": (-33,), "cheaper": (-22, -28, -33),
    "without": (-2, -33), "look": (-2,), "look_dye": (-2,), "look_tint": (-2,), "back": (-2,), "again": (-2,),
    "state": (),
}

CHANGES = NAMES[1:18]


class Caller:
    """Makes up calls, most of them such as can be answered."""

    def __init__(self, seed):
        self.chance = random.Random(seed)
        self.model = Model()
        self.small = self.chance.random() < 0.6
        self.first_names = ("dye", "tint", "room", "room", "roll", "roll", "door", "side")
        if self.chance.random() < 0.2:
            self.first_names = ("room", "door", "door", "side", "side", "side")

    def held(self, key):
        return self.model.now[key] if self.model.now is not None else []

    def number(self, least, most):
        if self.chance.random() < 0.06:
            return self.chance.choice((0, max(least - 1, 0), most + 1, TOP))
        if self.chance.random() < 0.1:
            return self.chance.choice((least, most))
        return self.chance.randint(least, most)

    def member(self, key):
        count = len(self.held(key))
        if count == 0 or self.chance.random() < 0.04:
            return self.chance.choice((count, count + 1, TOP))
        return self.chance.randrange(count)

    def repeat(self):
        return self.model.now["repeat"] if self.model.now is not None else 12

    def divisor(self):
        if self.chance.random() < 0.2:
            return self.number(0, 60)
        return self.chance.choice([n for n in range(1, self.repeat() + 1) if self.repeat() % n == 0])

    def colour(self):
        return tuple(self.number(0, 4 if self.small else 1000) for part in range(3))

    def dye(self):
        parts = tuple(self.number(0, 2 if self.small else 50) for part in range(3))
        return parts + (self.number(0, 3 if self.small else 1000),)

    def span(self, part):
        room = self.member("rooms")
        most = self.held("rooms")[room][part] if room < len(self.held("rooms")) else 20
        low = self.number(0, most - 1)
        # Short ones leave some first strips clear, long ones bar them all.
        length = self.chance.choice((3, 3, 3, most))
        return room, low, self.number(min(low + 1, most), max(min(low + length, most), min(low + 1, most)))

    def row(self):
        strips = None
        if self.model.now is not None:
            strips = strips_of_all(*self.model.laid())
        row = list(range(len(strips) if strips is not None else 2))
        self.chance.shuffle(row)
        if self.chance.random() < 0.2:
            row = [self.number(0, 6) for place in range(self.chance.randint(0, 8))]
        return row

    def given(self, name):
        if name == "begin":
            repeat = self.chance.choice((1, 6, 12, 24, 30, 60, self.number(1, 60)))
            drop = self.chance.choice((repeat // 2, repeat // 3, self.chance.randrange(max(repeat, 1)), 0))
            return (repeat, drop, self.number(10, 60))
        if name in ("dye", "cheaper"):
            return self.dye()
        if name == "tint":
            return self.colour() + (self.number(1, 1000),)
        if name in ("makes", "least", "shows", "needed"):
            return self.colour()
        if name in ("undye", "without", "look_dye"):
            return (self.member("dyes"),)
        if name in ("untint", "look_tint"):
            return (self.member("tints"),)
        if name in ("unroom", "turn", "first", "firsts", "seams", "strips", "look"):
            return (self.member("rooms"),)
        return self.given_otherwise(name)

    def given_otherwise(self, name):
        if name == "price":
            return self.member("dyes"), self.number(0, 1000)
        if name == "grams":
            return self.member("tints"), self.number(1, 1000)
        if name == "room":
            return self.number(1, self.chance.choice((30, 60, 200))), self.number(1, self.chance.choice((30, 60, 200)))
        if name in ("door", "side"):
            return self.span(0 if name == "door" else 1)
        if name == "widths":
            low = self.number(1, 60)
            return self.member("rooms"), low, self.number(min(low, 60), 60)
        if name == "roll":
            return self.number(1, self.chance.choice((100, 200, 400, 10000))), self.number(0, self.repeat() - 1)
        if name == "order":
            return (self.row(),)
        return {"unroll": lambda: (self.member("rolls"),), "wide": lambda: (self.number(1, 60),),
                "drop": lambda: (self.number(0, self.repeat() - 1),), "pattern": lambda: (self.divisor(),),
                "finer": lambda: (self.divisor(),)}.get(name, lambda: ())()

    def call(self):
        turn = self.chance.random()
        if self.model.now is None:
            name = self.chance.choice(("begin", "begin", self.chance.choice(NAMES)))
        elif turn < 0.25:
            name = self.chance.choice(self.first_names)
        elif turn < 0.35:
            name = self.chance.choice(("back", "back", "again"))
        elif turn < 0.4:
            name = self.chance.choice(CHANGES)
        else:
            name = self.chance.choice(NAMES[1:] if turn < 0.99 else NAMES)
        return (name,) + self.given(name)


class AgainstAnotherReckoning(unittest.TestCase):
    def test_lists_of_120_calls(self):
        seen = {}
        for seed in range(200):
            caller = Caller(seed)
            calls = []
            expected = []
            for turn in range(120):
                call = caller.call()
                calls.append(call)
                expected.append(caller.model.answer(call))
                seen[call[0], min(expected[-1][0], 0)] = True
            told = run(*calls)
            for number, call in enumerate(calls):
                self.assertEqual(told[number], expected[number], f"list {seed}, call {number}, {call}")
        for name in NAMES:
            for refusal in (0,) + REFUSALS[name]:
                self.assertTrue((name, refusal) in seen, f"{name} answered {refusal}: not tried by these lists")
        self.assertFalse([key for key in seen if key[1] not in (0, -61) + REFUSALS[key[0]]])


if __name__ == "__main__":
    unittest.main()
