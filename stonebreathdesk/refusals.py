"""What is answered when a call is refused."""

WRONG_PLACE = -1
WRONG_INPUT = -2
NO_BREATH = -3
BOARD_AGAIN = -4
NO_TURN = -5
WRONG_TURNS = -6
NOT_A_RECORD = -7
WRONG_NODES = -8
WRONG_PLAY = -9
