"""What the tests share: calls by their names, answers split call by call, boards as pictures."""

from stonebreathdesk.board import answers

BLACK = 1
WHITE = 2
LEAST = -2147483648
MOST = 2147483647


def begin(size, komi=0, suicide=0):
    return [1, size, komi, suicide]


def lay(colour, x, y):
    return [2, colour, x, y]


def play(colour, x, y):
    return [3, colour, x, y]


def pass_turn(colour):
    return [4, colour]


def undo():
    return [5]


def look(x, y):
    return [6, x, y]


def rows():
    return [7]


def string(x, y):
    return [8, x, y]


def may(colour):
    return [9, colour]


def mark(x, y):
    return [10, x, y]


def score(how):
    return [11, how]


def safe(colour):
    return [12, colour]


def caught(x, y, turns):
    return [13, x, y, turns]


def read(record, suicide=0):
    """A record is a text, a sign for each byte, or a list of bytes."""
    numbers = [ord(sign) for sign in record] if isinstance(record, str) else list(record)
    return [14, suicide, len(numbers)] + numbers


def told():
    return [15]


def turns():
    return [16]


def told_text(answer):
    """What told answers, as a text."""
    if answer[0] != len(answer) - 1:
        raise ValueError("the count does not fit the bytes: %r" % answer)
    return "".join(chr(byte) for byte in answer[1:])


def places(picture, sign):
    """The places of a picture that hold a sign, rising."""
    return [place for place, found in enumerate("".join(picture.split())) if found == sign]


def split(numbers):
    """The answers one by one, without the counts before them."""
    found = []
    at = 0
    while at < len(numbers):
        end = at + 1 + numbers[at]
        if numbers[at] < 1 or end > len(numbers):
            raise ValueError("a count does not fit what is answered: %r" % numbers)
        found.append(numbers[at + 1:end])
        at = end
    return found


def ask(*calls):
    """The answer to each call, all made of one new game."""
    return split(answers([number for call in calls for number in call]))


def last(*calls):
    """The answer to the last call."""
    return ask(*calls)[-1]


def laid(picture, komi=0, suicide=0):
    """The calls that begin a game and lay its board: rows of . X O, with blanks between the rows."""
    lines = picture.split()
    calls = [begin(len(lines), komi, suicide)]
    for colour, sign in ((BLACK, "X"), (WHITE, "O")):
        for y, line in enumerate(lines):
            for x, found in enumerate(line):
                if found == sign:
                    calls.append(lay(colour, x, y))
    # Black is laid first: a picture that can't be laid so would make a test of another board.
    if last(*calls, rows()) != board(picture):
        raise ValueError("this board can't be laid: " + picture)
    return calls


def board(picture):
    """What rows answers of a picture."""
    colours = [".XO".index(sign) for sign in "".join(picture.split())]
    return [len(colours)] + colours
