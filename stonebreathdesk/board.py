"""The interface: a list of calls on one new game in, the list of their answers out."""

from stonebreathdesk.game import Game

BEGIN = 1
LAY = 2
PLAY = 3
PASS_TURN = 4
UNDO = 5
LOOK = 6
ROWS = 7

# By a call's number: how many whole numbers stand behind it.
GIVEN = {1: 3, 2: 3, 3: 3, 4: 1, 5: 0, 6: 2, 7: 0, 8: 2}


def answer_to(game, call, given):
    if call == BEGIN:
        return game.begin(given[0], given[1], given[2])
    if call == LAY:
        return game.lay(given[0], given[1], given[2])
    if call == PLAY:
        return game.play(given[0], given[1], given[2])
    if call == PASS_TURN:
        return game.pass_turn(given[0])
    if call == UNDO:
        return game.undo()
    if call == LOOK:
        return game.look(given[0], given[1])
    if call == ROWS:
        return game.rows()
    # 8, string: GIVEN lets no other number come here.
    return game.string(given[0], given[1])


def answers(calls):
    game = Game()
    told = []
    start = 0
    while start < len(calls):
        call = calls[start]
        end = start + 1 + GIVEN[call]
        answer = answer_to(game, call, calls[start + 1:end])
        told.append(len(answer))
        told.extend(answer)
        start = end
    return told
