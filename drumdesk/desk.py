"""The desk and its calls."""

from drumdesk.machine import CARD_SIZE, Machine, are_pairs, are_parts, is_address, is_tick
from drumdesk.runs import Run, cards_read, go_on, punched
from drumdesk.words import is_word

LOAD = 1
PUT = 2
STOP = 3
HAND = 4

# How many whole numbers stand behind a call's number, ahead of its row.
WHOLE_NUMBERS = {1: 6, 2: 2, 3: 2, 4: 0, 5: 3}
WITH_ROW = (1, 4)

NO_MACHINE = -3
WRONG = -1
WRONG_FORM = -6
TOO_MANY = -9
JOURNAL_FULL = -7

STOPS_MOST = 64
HOPPER_MOST = 64
HANDED_MOST = 512
ORDERS_MOST = 10000
PAUSE_MOST = 64
JOURNAL_MOST = 20000

PUT_ENTRY = 1
STOP_ENTRY = 2
RUN_ENTRY = 3


class Desk:
    def __init__(self):
        self.machine = None
        self.stops = {}
        self.journal = []


def has_room(desk, more):
    return len(desk.journal) + more <= JOURNAL_MOST


def load(desk, parts, pairs):
    if not are_parts(parts):
        return [WRONG]
    if not are_pairs(pairs):
        return [WRONG_FORM]
    desk.machine = Machine(parts, pairs)
    desk.stops = {}
    desk.journal = parts + [len(pairs)] + pairs
    return [0]


def put(desk, address, word):
    if not is_address(address) or not is_word(word):
        return [WRONG]
    if not has_room(desk, 3):
        return [JOURNAL_FULL]
    desk.machine.drum[address] = word
    desk.journal.extend([PUT_ENTRY, address, word])
    return [0]


def stop(desk, address, on):
    if not is_address(address) or not 0 <= on <= 1:
        return [WRONG]
    if (address in desk.stops) == (on == 1):
        return [0, 0]
    if on == 1 and len(desk.stops) >= STOPS_MOST:
        return [TOO_MANY]
    if not has_room(desk, 3):
        return [JOURNAL_FULL]
    if on == 1:
        desk.stops[address] = True
    else:
        desk.stops.pop(address)
    desk.journal.extend([STOP_ENTRY, address, on])
    return [0, 1]


def are_cards(words):
    if len(words) > HANDED_MOST or len(words) % CARD_SIZE != 0:
        return False
    return all([is_word(word) for word in words])


def hand(desk, words):
    hopper = desk.machine.hopper
    if not are_cards(words):
        return [WRONG]
    if len(hopper) + len(words) // CARD_SIZE > HOPPER_MOST:
        return [TOO_MANY]
    for first in range(0, len(words), CARD_SIZE):
        hopper.append(words[first:first + CARD_SIZE])
    return [0, len(hopper)]


def run(desk, orders, until, pause):
    if not 0 <= orders <= ORDERS_MOST or not is_tick(until) or not 0 <= pause <= PAUSE_MOST:
        return [WRONG]
    if not has_room(desk, 3 + CARD_SIZE * len(desk.machine.hopper)):
        return [JOURNAL_FULL]
    this_run = Run(desk.machine, desk.stops)
    end = go_on(this_run, orders, until, pause)
    if this_run.begun > 0:
        note_run(desk, this_run)
    return [0, end, this_run.begun, len(cards_read(this_run)), punched(this_run)]


def note_run(desk, this_run):
    cards = cards_read(this_run)
    desk.journal.extend([RUN_ENTRY, this_run.begun, len(cards)])
    for card in cards:
        desk.journal.extend(card)


def answer(desk, call, numbers, row):
    if call == LOAD:
        return load(desk, numbers, row)
    if desk.machine is None:
        return [NO_MACHINE]
    if call == PUT:
        return put(desk, numbers[0], numbers[1])
    if call == STOP:
        return stop(desk, numbers[0], numbers[1])
    if call == HAND:
        return hand(desk, row)
    return run(desk, numbers[0], numbers[1], numbers[2])


# Slices copy what is handed in, so the desk never holds the caller's own list.
def answers(calls):
    desk = Desk()
    answered = []
    at = 0
    while at < len(calls):
        call = calls[at]
        row_at = at + 1 + WHOLE_NUMBERS[call]
        numbers = calls[at + 1:row_at]
        row = []
        at = row_at
        if call in WITH_ROW:
            at = row_at + 1 + calls[row_at]
            row = calls[row_at + 1:at]
        one = answer(desk, call, numbers, row)
        answered.append(len(one))
        answered.extend(one)
    return answered
