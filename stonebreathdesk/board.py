"""The interface: a list of calls on one new game in, the list of their answers out."""

from stonebreathdesk.desk import Desk

BEGIN = 1
LAY = 2
PLAY = 3
PASS_TURN = 4
UNDO = 5
LOOK = 6
ROWS = 7
STRING = 8
MAY = 9
MARK = 10
SCORE = 11
SAFE = 12
CAUGHT = 13
READ = 14
TOLD = 15

# By a call's number: how many whole numbers stand behind it; of read, those ahead of its bytes.
GIVEN = {1: 3, 2: 3, 3: 3, 4: 1, 5: 0, 6: 2, 7: 0, 8: 2, 9: 1, 10: 2, 11: 1, 12: 1, 13: 3, 14: 2, 15: 0, 16: 0}


def how_many_given(calls, start):
    call = calls[start]
    if call == READ:
        return GIVEN[call] + calls[start + 2]
    return GIVEN[call]


# The calls that may change the game.
def answer_to(desk, call, given):
    if call == BEGIN:
        return desk.begin(given[0], given[1], given[2])
    if call == LAY:
        return desk.lay(given[0], given[1], given[2])
    if call == PLAY:
        return desk.play(given[0], given[1], given[2])
    if call == PASS_TURN:
        return desk.pass_turn(given[0])
    if call == UNDO:
        return desk.undo()
    if call == MARK:
        return desk.mark(given[0], given[1])
    if call == READ:
        return desk.read(given[0], given[2:])
    return answer_to_question(desk, call, given)


# The calls that only ask.
def answer_to_question(desk, call, given):
    if call == LOOK:
        return desk.look(given[0], given[1])
    if call == ROWS:
        return desk.rows()
    if call == STRING:
        return desk.string(given[0], given[1])
    if call == MAY:
        return desk.may(given[0])
    if call == SCORE:
        return desk.score(given[0])
    if call == SAFE:
        return desk.safe(given[0])
    if call == CAUGHT:
        return desk.caught(given[0], given[1], given[2])
    if call == TOLD:
        return desk.told()
    # 16, turns: GIVEN lets no other number come here.
    return desk.all_turns()


def answers(calls):
    desk = Desk()
    told = []
    start = 0
    while start < len(calls):
        end = start + 1 + how_many_given(calls, start)
        answer = answer_to(desk, calls[start], calls[start + 1:end])
        told.append(len(answer))
        told.extend(answer)
        start = end
    return told
