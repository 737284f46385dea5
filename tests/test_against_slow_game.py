"""Long lines of calls, answered alike by the program and by a slow game that keeps only what was said.

The slow game holds a board as a dict of its stones, finds strings by widening, and makes all turns
anew for each question, so that it shares no way of working with the program.
"""

import random
import unittest

from tests.helper import ask


class SlowGame:
    def __init__(self):
        self.rules = (19, 0, 0)
        self.laid = {}
        self.turns = []

    def beside(self, place):
        x, y = place
        size = self.rules[0]
        near = {(x + 1, y), (x - 1, y), (x, y + 1), (x, y - 1)}
        return {(a, b) for a, b in near if a in range(size) and b in range(size)}

    def string(self, stones, place):
        found = {place}
        while True:
            wider = found | {n for p in found for n in self.beside(p) if stones.get(n) == stones[place]}
            if wider == found:
                return found
            found = wider

    def breaths(self, stones, string):
        return {n for p in string for n in self.beside(p) if n not in stones}

    def breathless(self, stones, colour):
        return {p for p in stones if stones[p] == colour and not self.breaths(stones, self.string(stones, p))}

    def put(self, stones, colour, place):
        """The stones behind it, and whether its own were taken."""
        stones = {**stones, place: colour}
        dead = self.breathless(stones, 3 - colour) & {
            p for n in self.beside(place) if n in stones for p in self.string(stones, n)
        }
        stones = {p: c for p, c in stones.items() if p not in dead}
        own = self.string(stones, place)
        if self.breaths(stones, own):
            return stones, False
        return {p: c for p, c in stones.items() if p not in own}, True

    def boards(self):
        made = [self.laid]
        for colour, place in self.turns:
            made.append(made[-1] if place is None else self.put(made[-1], colour, place)[0])
        return made

    def is_place(self, x, y):
        return min(x, y) >= 0 and max(x, y) < self.rules[0]

    def answer(self, call):
        name = ("begin", "lay", "play", "pass_turn", "undo", "look", "rows", "string_there")[call[0] - 1]
        return getattr(self, name)(*call[1:])

    def begin(self, size, komi, suicide):
        if size not in range(2, 20) or abs(komi) > 2000 or suicide not in (0, 1):
            return [-2]
        self.rules, self.laid, self.turns = (size, komi, suicide), {}, []
        return [0]

    def lay(self, colour, x, y):
        if colour not in (0, 1, 2) or not self.is_place(x, y):
            return [-2]
        if self.turns:
            return [-6]
        stones = {p: c for p, c in {**self.laid, (x, y): colour}.items() if c}
        if self.breathless(stones, 1) or self.breathless(stones, 2):
            return [-3]
        self.laid = stones
        return [0]

    def play(self, colour, x, y):
        if colour not in (1, 2) or not self.is_place(x, y):
            return [-2]
        if len(self.turns) == 1000:
            return [-6]
        boards = self.boards()
        if (x, y) in boards[-1]:
            return [-1]
        stones, own_taken = self.put(boards[-1], colour, (x, y))
        if own_taken and not self.rules[2]:
            return [-3]
        if stones in boards:
            return [-4]
        self.turns.append((colour, (x, y)))
        return [len(boards[-1]) + 1 - len(stones)]

    def pass_turn(self, colour):
        if colour not in (1, 2):
            return [-2]
        if len(self.turns) == 1000:
            return [-6]
        self.turns.append((colour, None))
        return [0]

    def undo(self):
        if not self.turns:
            return [-5]
        self.turns = self.turns[:-1]
        return [0]

    def look(self, x, y):
        return [self.boards()[-1].get((x, y), 0)] if self.is_place(x, y) else [-2]

    def rows(self):
        stones = self.boards()[-1]
        size = self.rules[0]
        return [size * size] + [stones.get((x, y), 0) for y in range(size) for x in range(size)]

    def string_there(self, x, y):
        if not self.is_place(x, y):
            return [-2]
        stones = self.boards()[-1]
        if (x, y) not in stones:
            return [-1]
        string = self.string(stones, (x, y))
        places = sorted(b * self.rules[0] + a for a, b in string)
        return [len(string), len(self.breaths(stones, string))] + places


def some_place(chance, size):
    """Mostly a place of the board, now and then one just beyond it."""
    if chance.random() < 0.03:
        return [chance.randint(-1, size), chance.randint(-1, size)]
    return [chance.randrange(size), chance.randrange(size)]


def some_colour(chance):
    return chance.choice([1, 2] * 20 + [-1, 0, 3])


def some_call(chance, size):
    kind = chance.choices(range(1, 9), [1, 10, 120, 6, 14, 4, 20, 16])[0]
    if kind == 1:
        return [1, chance.choice([size, size, 1, 20]), chance.choice([0, 2000, -2001]), chance.choice([0, 1, 1, 2])]
    if kind == 2:
        return [2, chance.choice([0, 1, 2, 1, 2, 3])] + some_place(chance, size)
    if kind == 3:
        return [3, some_colour(chance)] + some_place(chance, size)
    if kind == 4:
        return [4, some_colour(chance)]
    if kind in (6, 8):
        return [kind] + some_place(chance, size)
    return [kind]


def some_line(seed):
    chance = random.Random(seed)
    size = chance.choice([2, 2, 3, 3, 4, 5])
    calls = [[1, size, 0, chance.randrange(2)]]
    for lay in range(chance.choice([0, 0, 4, 12])):
        calls.append([2, chance.choice([0, 1, 2, 1, 2])] + some_place(chance, size))
    for call in range(60):
        calls.append(some_call(chance, size))
    return calls


class AgainstTheSlowGame(unittest.TestCase):
    def test_lines_of_calls(self):
        seen = {}
        for seed in range(300):
            calls = some_line(seed)
            slow = SlowGame()
            expected = [slow.answer(call) for call in calls]
            self.assertEqual(ask(*calls), expected, (seed, calls))
            for call, answer in zip(calls, expected):
                seen[call[0], min(answer[0], 2)] = True
        # Every answer that a call can give has come up, else the lines say too little.
        due = {
            1: (0, -2), 2: (0, -2, -3, -6), 3: (0, 1, 2, -1, -2, -3, -4), 4: (0, -2),
            5: (0, -5), 6: (0, 1, 2, -2), 7: (2,), 8: (1, 2, -1, -2),
        }
        for call, told in due.items():
            for answer in told:
                self.assertIn((call, answer), seen)


if __name__ == "__main__":
    unittest.main()
