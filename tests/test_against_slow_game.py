"""Long lines of calls, answered alike by the program and by a slow game that keeps only what was said.

The slow game holds a board as a dict of its stones, finds strings by widening, and makes all turns
anew for each question, so that it shares no way of working with the program.
"""

import random
import re
import unittest

from tests.helper import ask

NAMES = """
begin lay play pass_turn undo look rows string_there may mark score safe caught read told all_turns
""".split()
VALUE = r"\[(?:[^\\\]]|\\.)*\]"
NODE = r";\s*(?:[A-Z]{1,8}\s*(?:%s\s*)+)*" % VALUE
KOMI = r"(-?)([0-9]{1,4})(\.[05]0*)?"


class Refused(Exception):
    """Carries the number that is answered."""


def need(holds, refusal):
    if not holds:
        raise Refused(refusal)


def found(pattern, text):
    # \s would take more signs for blanks than there are.
    return re.compile(pattern.replace(r"\s", r"[ \t\n\r]"), re.DOTALL).match(text)


def read_tree(text, depth):
    """The line of the tree that the text begins with, and the text behind it."""
    need(depth <= 40, -7)
    match = found(r"\s*\(\s*((?:%s\s*)+)" % NODE, text)
    need(match, -7)
    line = read_nodes(match.group(1))
    text = text[match.end():]
    first = True
    while text.startswith("("):
        within, text = read_tree(text, depth + 1)
        line = line + within if first else line
        first = False
        text = text.lstrip(" \t\n\r")
    need(text.startswith(")"), -7)
    return line, text[1:]


def read_nodes(text):
    """Each node as a list of its names and values; a name comes once for each time it is there."""
    nodes = []
    for node in re.findall(NODE.replace(r"\s", r"[ \t\n\r]"), text, re.DOTALL):
        named = re.findall(r"([A-Z]+)[ \t\n\r]*((?:%s[ \t\n\r]*)+)" % VALUE, node, re.DOTALL)
        nodes.append([(name, read_values(values)) for name, values in named])
    return nodes


def read_values(text):
    return [re.sub(r"\\(.)", r"\1", value[1:-1], flags=re.DOTALL) for value in re.findall(VALUE, text, re.DOTALL)]


def values_of(node, *names):
    """The values of each use of the names."""
    return [values for name, values in node if name in names]


class SlowGame:
    def __init__(self):
        self.rules = (19, 0, 0)
        self.laid = {}
        self.turns = []
        self.dead = set()

    def beside(self, place):
        x, y = place
        size = self.rules[0]
        near = {(x + 1, y), (x - 1, y), (x, y + 1), (x, y - 1)}
        return {(a, b) for a, b in near if a in range(size) and b in range(size)}

    def string(self, stones, place):
        found = {place}
        while True:
            wider = found | {n for p in found for n in self.beside(p) if stones.get(n) == stones[place]}
            if wider == found:
                return found
            found = wider

    def breaths(self, stones, string):
        return {n for p in string for n in self.beside(p) if n not in stones}

    def breathless(self, stones, colour):
        return {p for p in stones if stones[p] == colour and not self.breaths(stones, self.string(stones, p))}

    def put(self, stones, colour, place):
        """The stones behind it, and whether its own were taken."""
        stones = {**stones, place: colour}
        dead = self.breathless(stones, 3 - colour) & {
            p for n in self.beside(place) if n in stones for p in self.string(stones, n)
        }
        stones = {p: c for p, c in stones.items() if p not in dead}
        own = self.string(stones, place)
        if self.breaths(stones, own):
            return stones, False
        return {p: c for p, c in stones.items() if p not in own}, True

    def boards(self):
        made = [self.laid]
        for colour, place in self.turns:
            made.append(made[-1] if place is None else self.put(made[-1], colour, place)[0])
        return made

    def is_place(self, x, y):
        return min(x, y) >= 0 and max(x, y) < self.rules[0]

    def answer(self, call):
        name = NAMES[call[0] - 1]
        given = call[1:] if name != "read" else [call[1], "".join(chr(byte) for byte in call[3:])]
        told = getattr(self, name)(*given)
        if told[0] >= 0 and name in ("begin", "lay", "play", "pass_turn", "undo", "read"):
            self.dead = set()
        return told

    def begin(self, size, komi, suicide):
        if size not in range(2, 20) or abs(komi) > 2000 or suicide not in (0, 1):
            return [-2]
        self.rules, self.laid, self.turns = (size, komi, suicide), {}, []
        return [0]

    def lay(self, colour, x, y):
        if colour not in (0, 1, 2) or not self.is_place(x, y):
            return [-2]
        if self.turns:
            return [-6]
        stones = {p: c for p, c in {**self.laid, (x, y): colour}.items() if c}
        if self.breathless(stones, 1) or self.breathless(stones, 2):
            return [-3]
        self.laid = stones
        return [0]

    def play(self, colour, x, y):
        if colour not in (1, 2) or not self.is_place(x, y):
            return [-2]
        if len(self.turns) == 1000:
            return [-6]
        return self.play_now(colour, (x, y))

    def play_now(self, colour, place):
        boards = self.boards()
        if place in boards[-1]:
            return [-1]
        stones, own_taken = self.put(boards[-1], colour, place)
        if own_taken and not self.rules[2]:
            return [-3]
        if stones in boards:
            return [-4]
        self.turns = self.turns + [(colour, place)]
        return [len(boards[-1]) + 1 - len(stones)]

    def pass_turn(self, colour):
        if colour not in (1, 2):
            return [-2]
        if len(self.turns) == 1000:
            return [-6]
        self.turns.append((colour, None))
        return [0]

    def undo(self):
        if not self.turns:
            return [-5]
        self.turns = self.turns[:-1]
        return [0]

    def look(self, x, y):
        return [self.boards()[-1].get((x, y), 0)] if self.is_place(x, y) else [-2]

    def rows(self):
        stones = self.boards()[-1]
        size = self.rules[0]
        return [size * size] + [stones.get((x, y), 0) for y in range(size) for x in range(size)]

    def string_there(self, x, y):
        if not self.is_place(x, y):
            return [-2]
        stones = self.boards()[-1]
        if (x, y) not in stones:
            return [-1]
        string = self.string(stones, (x, y))
        places = sorted(b * self.rules[0] + a for a, b in string)
        return [len(string), len(self.breaths(stones, string))] + places


    def number(self, place):
        return place[1] * self.rules[0] + place[0]

    def all_places(self):
        return [(x, y) for y in range(self.rules[0]) for x in range(self.rules[0])]

    def listed(self, places):
        return [len(places)] + sorted(self.number(place) for place in places)

    def may(self, colour):
        if colour not in (1, 2):
            return [-2]
        could = []
        kept = self.turns
        for place in self.all_places():
            if self.play_now(colour, place)[0] >= 0:
                could.append(place)
            self.turns = kept
        return self.listed(could)

    def mark(self, x, y):
        if not self.is_place(x, y):
            return [-2]
        stones = self.boards()[-1]
        if (x, y) not in stones:
            return [-1]
        string = self.string(stones, (x, y))
        self.dead = self.dead - string if (x, y) in self.dead else self.dead | string
        return [0]

    def owners(self, stones):
        """For each empty place the colours beside the empty places that hang together with it."""
        empty = {place: 0 for place in self.all_places() if place not in stones}
        found = []
        while empty:
            part = self.string(empty, next(iter(empty)))
            found += [{stones[n] for p in part for n in self.beside(p) if n in stones}] * len(part)
            empty = {place: 0 for place in empty if place not in part}
        return found

    def score(self, how):
        if how not in (0, 1):
            return [-2]
        stones = {p: c for p, c in self.boards()[-1].items() if p not in self.dead}
        owners = self.owners(stones)
        points = {}
        for colour in (1, 2):
            points[colour] = owners.count({colour})
            if how == 0:
                points[colour] += list(stones.values()).count(colour)
            else:
                points[colour] += self.lost(3 - colour)
                points[colour] += [self.boards()[-1][p] for p in self.dead].count(3 - colour)
        nobody = len(owners) - owners.count({1}) - owners.count({2})
        return [0, points[1], points[2], nobody, 2 * (points[1] - points[2]) - self.rules[1]]

    def lost(self, colour):
        boards = self.boards()
        laid_or_played = list(self.laid.values()) + [turn[0] for turn in self.turns if turn[1] is not None]
        return laid_or_played.count(colour) - list(boards[-1].values()).count(colour)

    def safe(self, colour):
        if colour not in (1, 2):
            return [-2]
        stones = self.boards()[-1]
        strings = {frozenset(self.string(stones, p)) for p in stones if stones[p] == colour}
        own_or_not = {p: stones.get(p) == colour for p in self.all_places()}
        grounds = {frozenset(self.string(own_or_not, p)) for p in own_or_not if not own_or_not[p]}
        while True:
            kept = {s for s in strings if sum(self.is_vital(stones, g, s) for g in grounds) > 1}
            away = [p for s in strings - kept for p in s]
            grounds = {g for g in grounds if not any(n in g for p in away for n in self.beside(p))}
            if kept == strings:
                return self.listed([p for s in strings for p in s])
            strings = kept

    def is_vital(self, stones, ground, string):
        return {place for place in ground if place not in stones} <= self.breaths(stones, string)

    def caught(self, x, y, turns):
        if not self.is_place(x, y) or turns not in range(41):
            return [-2]
        stones = self.boards()[-1]
        if (x, y) not in stones:
            return [-1]
        return [int(self.is_caught(stones, (x, y), turns, {}))]

    def is_caught(self, stones, place, turns, known):
        """What is known of just this board and this number of turns is not asked again."""
        asked = (frozenset(stones.items()), turns)
        if asked not in known:
            known[asked] = self.find_caught(stones, place, turns, known)
        return known[asked]

    def find_caught(self, stones, place, turns, known):
        breaths = self.breaths(stones, self.string(stones, place))
        if turns == 0 or len(breaths) > 2:
            return False
        tried = [self.put(stones, 3 - stones[place], breath) for breath in breaths]
        colour = stones[place]
        return any(self.has_no_way(behind, place, colour, turns, known) for behind, own_taken in tried if not own_taken)

    def has_no_way(self, stones, place, colour, turns, known):
        if place not in stones:
            return True
        string = self.string(stones, place)
        ways = self.breaths(stones, string)
        if len(ways) > 1:
            return False
        for chaser in {n for p in string for n in self.beside(p) if stones.get(n) == 3 - colour}:
            last_breaths = self.breaths(stones, self.string(stones, chaser))
            ways = ways | last_breaths if len(last_breaths) == 1 else ways
        tried = [self.put(stones, colour, way) for way in ways]
        return all(self.is_caught(behind, place, turns - 1, known) for behind, own_taken in tried if not own_taken)

    def read(self, suicide, text):
        if suicide not in (0, 1):
            return [-2]
        game = SlowGame()
        try:
            line, rest = read_tree(text, 1)
            need(rest.strip(" \t\n\r") == "", -7)
            game.read_first(line[0], suicide)
            turns = [turn for node in line[1:] for turn in game.read_turn(node)]
            for colour, place in turns:
                if place is None:
                    game.turns = game.turns + [(colour, None)]
                else:
                    need(game.play_now(colour, place)[0] >= 0, -9)
            need(len(turns) <= 1000, -6)
        except Refused as refused:
            return [refused.args[0]]
        self.rules, self.laid, self.turns = game.rules, game.laid, game.turns
        return [len(turns)]

    def read_first(self, node, suicide):
        for name in ("GM", "SZ", "KM"):
            uses = values_of(node, name)
            need(len(uses) < 2 and all(len(values) == 1 for values in uses), -8)
        told = {name: values[0] for name, values in node}
        komi = re.fullmatch(KOMI, told.get("KM", "0"))
        need(told.get("GM", "1") == "1" and komi and re.fullmatch("[0-9]{1,4}", told.get("SZ", "19")), -8)
        half_points = 2 * int(komi.group(2)) + ("5" in (komi.group(3) or ""))
        size = int(told.get("SZ", "19"))
        need(2 <= size <= 19 and not values_of(node, "B", "W", "AE"), -8)
        self.rules = (size, -half_points if komi.group(1) else half_points, suicide)
        places = [(1, value) for values in values_of(node, "AB") for value in values]
        places += [(2, value) for values in values_of(node, "AW") for value in values]
        for colour, value in places:
            place = self.read_place(value)
            need(place not in self.laid, -8)
            self.laid[place] = colour
        need(not self.breathless(self.laid, 1) and not self.breathless(self.laid, 2), -8)

    def read_place(self, value):
        letters = "abcdefghijklmnopqrs"[:self.rules[0]]
        need(re.fullmatch("[%s]{2}" % letters, value), -8)
        return (letters.index(value[0]), letters.index(value[1]))

    def read_turn(self, node):
        need(not values_of(node, "AB", "AW", "AE"), -8)
        uses = [(name, values) for name, values in node if name in ("B", "W")]
        need(len(uses) < 2 and all(len(values) == 1 for name, values in uses), -8)
        return [(" BW".index(n), None if v[0] in ("", "tt") else self.read_place(v[0])) for n, v in uses]

    def told(self):
        size, komi, suicide = self.rules
        letters = "abcdefghijklmnopqrs"
        text = "(;GM[1]FF[4]SZ[%d]KM[%s]" % (size, "%g" % (komi / 2))
        for colour, name in ((1, "AB"), (2, "AW")):
            places = sorted((y, x) for x, y in self.laid if self.laid[x, y] == colour)
            text += (name if places else "") + "".join("[%s%s]" % (letters[x], letters[y]) for y, x in places)
        for colour, place in self.turns:
            text += ";%s[%s]" % (" BW"[colour], "" if place is None else letters[place[0]] + letters[place[1]])
        return [len(text + ")")] + [ord(sign) for sign in text + ")"]

    def all_turns(self):
        boards = self.boards()
        numbers = [len(self.turns)]
        for turn, before, behind in zip(self.turns, boards, boards[1:]):
            taken = 0 if turn[1] is None else len(before) + 1 - len(behind)
            numbers += [turn[0], -1 if turn[1] is None else self.number(turn[1]), taken]
        return numbers


def some_place(chance, size):
    """Mostly a place of the board, now and then one just beyond it."""
    if chance.random() < 0.03:
        return [chance.randint(-1, size), chance.randint(-1, size)]
    return [chance.randrange(size), chance.randrange(size)]


def some_colour(chance):
    return chance.choice([1, 2] * 20 + [-1, 0, 3])


def some_call(chance, size):
    kind = chance.choices(range(1, 17), [1, 6, 110, 6, 14, 3, 10, 8, 8, 10, 12, 8, 16, 4, 6, 6])[0]
    if kind == 1:
        komi = chance.choice([0, 13, -7, 2000, -2001])
        return [1, chance.choice([size, size, 1, 20]), komi, chance.choice([0, 1, 1, 2])]
    if kind == 2:
        return [2, chance.choice([0, 1, 2, 1, 2, 3])] + some_place(chance, size)
    if kind == 3:
        return [3, some_colour(chance)] + some_place(chance, size)
    if kind in (4, 9, 12):
        return [kind, some_colour(chance)]
    if kind in (6, 8, 10):
        return [kind] + some_place(chance, size)
    if kind == 11:
        return [11, chance.choice([0, 1] * 10 + [-1, 2])]
    if kind == 13:
        return [13] + some_place(chance, size) + [chance.choice([0, 1, 2, 3, 4, 8, 20, 40, -1, 41])]
    if kind == 14:
        record = some_record(chance, size)
        return [14, chance.choice([0, 0, 0, 1, 1, 2]), len(record)] + [ord(sign) for sign in record]
    return [kind]


def some_value(chance, size):
    return "".join(chance.choice("abcdefghijklmnopqrs"[:size]) for letter in "xy")


def some_first_node(chance, size):
    pieces = ["SZ", "[%d]" % size]
    if chance.random() < 0.4:
        pieces += ["KM", "[%s]" % chance.choice(["0", "6.5", "-0.5", "0007", "9999.50", "6.", "5.05", "-", "12345"])]
    if chance.random() < 0.3:
        pieces += ["GM", "[%s]" % chance.choice(["1", "1", "1", "2", ""])]
    for name in chance.choices(["AB", "AW", "C", "AE", "B"], [8, 8, 4, 1, 1], k=chance.randrange(4)):
        pieces += [name] + ["[%s]" % some_value(chance, size) for value in range(chance.choice([1, 1, 1, 2]))]
    return [";"] + pieces


def some_node(chance, size):
    pieces = [";"]
    if chance.random() < 0.9:
        pieces += [chance.choice("BW"), "[%s]" % chance.choice([some_value(chance, size)] * 8 + ["", "tt"])]
    if chance.random() < 0.15:
        pieces += [chance.choice(["C", "SZ", "N", "ABCDEFGH"]), chance.choice(["[]", "[\\]]", "[x](y]", "[\n]"])]
    if chance.random() < 0.03:
        pieces += [chance.choice(["B", "W", "AB", "AE", "ABCDEFGHI", "c"]), "[" + some_value(chance, size) + "]"]
    return pieces


def some_tree(chance, size, first):
    pieces = ["("] + (some_first_node(chance, size) if first else some_node(chance, size))
    for node in range(chance.randrange(4)):
        pieces += some_node(chance, size)
    for tree in range(chance.choice([0, 0, 0, 1, 2])):
        pieces += some_tree(chance, size, False)
    return pieces + [")"]


def some_record(chance, size):
    pieces = some_tree(chance, size, True)
    while chance.random() < 0.3:
        pieces.insert(chance.randrange(len(pieces) + 1), chance.choice(" \t\n\r"))
    text = "".join(pieces)
    if chance.random() < 0.2:
        at = chance.randrange(len(text) + 1)
        text = text[:at] + chance.choice(["", chance.choice("()[];\\ aA1\0")]) + text[at + chance.randrange(2):]
    return text


def some_line(seed):
    chance = random.Random(seed)
    size = chance.choice([2, 2, 3, 3, 4, 5])
    calls = [[1, size, 0, chance.randrange(2)]]
    for lay in range(chance.choice([0, 0, 4, 12])):
        calls.append([2, chance.choice([0, 1, 2, 1, 2])] + some_place(chance, size))
    for call in range(80):
        calls.append(some_call(chance, size))
    return calls


class AgainstTheSlowGame(unittest.TestCase):
    def check(self, lines):
        """The first number of each call's answers, at most 2."""
        seen = {}
        for number, calls in enumerate(lines):
            slow = SlowGame()
            expected = [slow.answer(call) for call in calls]
            self.assertEqual(ask(*calls), expected, (number, calls))
            for call, answer in zip(calls, expected):
                seen[call[0], min(answer[0], 2)] = True
        return seen

    def test_lines_of_calls(self):
        seen = self.check(some_line(seed) for seed in range(300))
        # Every answer that a call can give has come up, else the lines say too little.
        due = {
            1: (0, -2), 2: (0, -2, -3, -6), 3: (0, 1, 2, -1, -2, -3, -4), 4: (0, -2),
            5: (0, -5), 6: (0, 1, 2, -2), 7: (2,), 8: (1, 2, -1, -2), 9: (0, 1, 2, -2), 10: (0, -1, -2), 11: (0, -2),
            12: (0, 2, -2), 13: (0, 1, -1, -2), 14: (0, 1, 2, -2, -7, -8, -9), 15: (2,), 16: (0, 1, 2),
        }
        for call, told in due.items():
            for answer in told:
                self.assertIn((call, answer), seen)

    def test_records(self):
        lines = []
        for seed in range(4000):
            chance = random.Random(seed)
            size = chance.choice([2, 3, 4, 5, 9, 19])
            record = some_record(chance, size)
            read = [14, chance.randrange(2), len(record)] + [ord(sign) for sign in record]
            calls = [[1, size, 0, 0], read, [15], [16]]
            # The slow game's count takes too long on large boards.
            lines.append(calls + [[11, 1]] if size < 9 else calls)
        seen = self.check(lines)
        for answer in (0, 1, 2, -7, -8, -9):
            self.assertIn((14, answer), seen)

    def test_boards_full_of_stones(self):
        lines = []
        for seed in range(150):
            chance = random.Random(seed)
            size = chance.choice([4, 5, 6])
            calls = [[1, size, 0, 0]]
            for lay in range(chance.choice([1, 2, 3]) * size * size // 2):
                calls.append([2, chance.choice([1, 2])] + [chance.randrange(size), chance.randrange(size)])
            for x in range(size):
                calls += [[13, x, y, chance.choice([1, 2, 3, 10, 40])] for y in range(size)]
            lines.append(calls + [[12, 1], [12, 2], [9, 1], [9, 2], [11, 0], [11, 1]])
        seen = self.check(lines)
        self.assertIn((13, 1), seen)
        self.assertIn((12, 2), seen)


if __name__ == "__main__":
    unittest.main()
