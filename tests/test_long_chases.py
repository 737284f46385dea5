"""Point 7: chases that come to very many boards are answered, and what is kept of these stays within a bound."""

import random
import subprocess
import sys
import unittest

from stonebreathdesk.chase import NEVER, Chase
from stonebreathdesk.memory import MOST_KEPT, Memory
from stonebreathdesk.stones import put, sides_of_all
from tests.helper import ask, board, caught, read

# Gone through in the order of the words, with all that is found kept, it's more than two million boards.
NOT_CAUGHT = """
XXOOO..XXX..OOO..XO
XX....XO.O.X.X.OXO.
OOXO..O...O.O.X.O..
X..OX.OXX..XOO.XOOX
OXXOX.OO.XO.O.X.X.X
OX.O...O.XOX..OO.XO
OO...XOX..OOXO.O...
.O..OOX....X.OOOO.O
OXX.OOXXOO.O...X..X
..O.OXO..XOO.....XX
..OO......O.X.XOO.X
O...X..OX..X.OOOO..
XXXOXOXO.XOX.OOOOX.
O.XOXO.X..OOX..OX.O
X.OO..OXO.X....O.X.
OX.O..O....XO.OX..O
OOOXOX..XOO...XXOO.
XOOXXO.X..O..XXOOO.
.O..OO.OO...XOO..X.
"""
# Likewise more than 600000, and here the string is caught: all its ways must be gone to know that.
CAUGHT_IN_31 = """
..OXX....XXX.X..XXX
O.......OO.XOOXOOX.
XO.....XXXO...O..OX
...OOXOO...X.OXOO.O
...OOOO..XOO.X..XO.
X..OOO.OX...O......
.O.X.XOX.O..O.XO...
....OOX.OO..X...O.O
O...XOXXOOXOO..X.OX
.XXOXOO..XO.OXO....
..O..OO...XO..O...X
X......OXXOX..XO..O
O.X.O.XOXOO...OO.XO
O...O.XO.XOX..XO...
OXXX.X.OO.......OOO
.XX.XO..XXOO.XOO.XX
O..OX.OXOO..XXO..OX
..X.XO.XOXXO.OX.O..
OOOXOOX....O.X.XXXX
"""
MIDDLE = 9 * 19 + 9
MOST_MEMORY = 64 * 1024 * 1024

# In processes of their own, so that nothing else counts; the last row is the most memory that was taken (in KB).
ASKED = """
import sys
from stonebreathdesk.board import answers
print(answers([int(word) for word in sys.stdin.read().split()]))
"""
FILLED = """
from stonebreathdesk.memory import MOST_KEPT, Memory
memory = Memory(MOST_KEPT, (0, 41, 0))
for number in range(6 * MOST_KEPT):
    memory.keep(1 << 759 | number * 2654435761 << 300, number % 41, 41, number * 7919 % 100003)
print(len(memory.kept) <= MOST_KEPT)
"""
MEMORY_TAKEN = """
with open("/proc/self/status") as status:
    print([line.split()[1] for line in status if line.startswith("VmHWM:")][0])
"""


def letters_of(picture, sign):
    places = [place for place, there in enumerate("".join(picture.split())) if there == sign]
    return "".join("[" + "abcdefghijklmnopqrs"[place % 19] + "abcdefghijklmnopqrs"[place // 19] + "]" for place in places)


def record_of(picture):
    return "(;SZ[19]AB" + letters_of(picture, "X") + "AW" + letters_of(picture, "O") + ")"


def caught_with_memory(most_kept, size, stones, place, turns):
    """The answer, how many boards were searched, and the most that were kept at a time."""
    chase = Chase(size, most_kept)
    kept = []
    chase.memory = WatchedMemory(most_kept, (0, NEVER, 0), kept)
    answer = chase.is_caught(chase.first_scene(stones, place), turns)
    return answer, chase.searched, max(kept, default=0)


class WatchedMemory(Memory):
    def __init__(self, most_kept, nothing_known, seen):
        Memory.__init__(self, most_kept, nothing_known)
        self.seen = seen

    def keep(self, *given):
        Memory.keep(self, *given)
        self.seen.append(len(self.kept))


class Answers(unittest.TestCase):
    def asked(self, picture, numbers):
        return ask(read(record_of(picture)), *[caught(9, 9, number) for number in numbers])

    def test_not_caught(self):
        self.assertEqual(self.asked(NOT_CAUGHT, (0, 1, 10, 39, 40)), [[0]] * 6)

    def test_caught(self):
        self.assertEqual(self.asked(CAUGHT_IN_31, (30, 31, 40)), [[0], [0], [1], [1]])


class MemoryTaken(unittest.TestCase):
    def run_child(self, code, numbers=()):
        child = subprocess.run([sys.executable, "-c", code + MEMORY_TAKEN], input=" ".join(map(str, numbers)),
                               capture_output=True, text=True, timeout=3000)
        self.assertEqual(child.returncode, 0, child.stderr)
        answer, kilobytes = child.stdout.split("\n")[:2]
        self.assertLessEqual(int(kilobytes) * 1024, MOST_MEMORY)
        return answer

    def test_not_caught(self):
        self.assertEqual(self.run_child(ASKED, read(record_of(NOT_CAUGHT)) + caught(9, 9, 40)), "[1, 0, 1, 0]")

    def test_caught(self):
        self.assertEqual(self.run_child(ASKED, read(record_of(CAUGHT_IN_31)) + caught(9, 9, 40)), "[1, 0, 1, 1]")

    def test_as_much_as_can_be_kept(self):
        self.assertEqual(self.run_child(FILLED), "True")


class LittleMemory(unittest.TestCase):
    def test_a_long_chase(self):
        stones = tuple(board(CAUGHT_IN_31)[1:])
        for turns, expected in ((30, False), (31, True)):
            answer, searched, kept = caught_with_memory(300, 19, stones, MIDDLE, turns)
            self.assertEqual(answer, expected)
            self.assertLessEqual(kept, 300)
            # Else nothing was forgotten, and the test says nothing.
            self.assertGreater(searched, 1000)

    def test_small_boards(self):
        seen = {}
        for seed in range(400):
            chance = random.Random(seed)
            size = chance.choice([3, 4, 5, 6])
            stones = (0,) * (size * size)
            for turn in range(size * size * chance.choice([1, 2]) // 2):
                place = chance.randrange(size * size)
                if stones[place] == 0:
                    stones = put(stones, sides_of_all(size), chance.choice([1, 2]), place).board
            turns = chance.choice([1, 2, 3, 5, 12])
            for place in [place for place, there in enumerate(stones) if there]:
                expected = caught_with_memory(MOST_KEPT, size, stones, place, turns)
                found = caught_with_memory(3, size, stones, place, turns)
                self.assertEqual(found[0], expected[0], (size, stones, place, turns))
                self.assertLessEqual(found[2], 3)
                seen[expected[0], expected[2] > 3] = True
        # Both answers, without and with boards that are forgotten.
        self.assertEqual(len(seen), 4)


class Keeping(unittest.TestCase):
    def test_never_more_than_told(self):
        for most_kept in (1, 2, 7, 100):
            memory = Memory(most_kept, (0, NEVER, 0))
            for number in range(1000):
                memory.keep(number, 1, NEVER, 1 + number * 31 % 11)
                self.assertLessEqual(len(memory.kept), most_kept)
                self.assertEqual(memory.known_of(number)[:2], (1, NEVER))

    def test_alike_work_is_no_reason_to_keep_all(self):
        memory = Memory(10, (0, NEVER, 0))
        for number in range(100):
            memory.keep(number, 1, NEVER, 5)
            self.assertLessEqual(len(memory.kept), 10)

    def test_bounds_come_together(self):
        memory = Memory(10, (0, NEVER, 0))
        self.assertEqual(memory.known_of(5), (0, NEVER, 0))
        memory.keep(5, 3, NEVER, 2)
        memory.keep(5, 0, 8, 4)
        memory.keep(5, 2, 9, 1)
        self.assertEqual(memory.known_of(5)[:2], (3, 8))

    def test_a_board_that_is_kept_takes_no_more_room(self):
        memory = Memory(3, (0, NEVER, 0))
        for number in (1, 2, 3, 3, 2, 1):
            memory.keep(number, 1, NEVER, 1)
        self.assertEqual(sorted(memory.kept), [1, 2, 3])

    def test_the_most_work_stays(self):
        memory = Memory(10, (0, NEVER, 0))
        memory.keep("much", 7, NEVER, 1000)
        for number in range(30):
            memory.keep(number, 1, NEVER, 1)
        self.assertEqual(memory.known_of("much")[:2], (7, NEVER))

    def test_what_was_much_work_goes_in_the_end(self):
        memory = Memory(10, (0, NEVER, 0))
        memory.keep("much", 7, NEVER, 1000)
        for number in range(1000):
            memory.keep(number, 1, NEVER, 1 + number % 3)
        self.assertEqual(memory.known_of("much"), (0, NEVER, 0))


if __name__ == "__main__":
    unittest.main()
