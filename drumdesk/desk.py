"""The calls on a desk, one behind another, and what they answer."""

from drumdesk.controls import Desk, hand, journal, load, peek, put, run, stop, told, tray
from drumdesk.journals import play

LOAD = 1
PUT = 2
STOP = 3
HAND = 4
RUN = 5
TOLD = 6
PEEK = 7
TRAY = 8
PLAY = 10

# How many whole numbers stand behind a call's number, ahead of its row.
WHOLE_NUMBERS = {1: 6, 2: 2, 3: 2, 4: 0, 5: 3, 6: 0, 7: 1, 8: 0, 9: 0, 10: 0}
WITH_ROW = (1, 4, 10)

NO_MACHINE = -3


def answer(desk, call, numbers, row):
    if call == LOAD:
        return load(desk, numbers, row)
    if call == PLAY:
        return play(desk, row)
    if desk.machine is None:
        return [NO_MACHINE]
    if call == HAND:
        return hand(desk, row)
    return answer_without_row(desk, call, numbers)


def answer_without_row(desk, call, numbers):
    if call == PUT:
        return put(desk, numbers[0], numbers[1])
    if call == STOP:
        return stop(desk, numbers[0], numbers[1])
    if call == RUN:
        return run(desk, numbers[0], numbers[1], numbers[2])
    if call == PEEK:
        return peek(desk, numbers[0])
    if call == TOLD:
        return told(desk)
    if call == TRAY:
        return tray(desk)
    return journal(desk)


# Slices copy what is handed in, so the desk never holds the caller's own list.
def answers(calls):
    desk = Desk()
    answered = []
    at = 0
    while at < len(calls):
        call = calls[at]
        row_at = at + 1 + WHOLE_NUMBERS[call]
        numbers = calls[at + 1:row_at]
        row = []
        at = row_at
        if call in WITH_ROW:
            at = row_at + 1 + calls[row_at]
            row = calls[row_at + 1:at]
        one = answer(desk, call, numbers, row)
        answered.append(len(one))
        answered.extend(one)
    return answered
