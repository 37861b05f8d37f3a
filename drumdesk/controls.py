"""The desk and what is done at it by hand; each answers as its call does."""

from drumdesk.machine import CARD_SIZE, Machine, are_pairs, are_parts, is_address, is_tick
from drumdesk.runs import Run, cards_read, go_on, punched
from drumdesk.words import is_word

WRONG = -1
WRONG_FORM = -6
TOO_MANY = -9
JOURNAL_FULL = -7

STOPS_MOST = 64
HOPPER_MOST = 64
HANDED_MOST = 512
ORDERS_MOST = 10000
PAUSE_MOST = 64
JOURNAL_MOST = 20000

PUT_ENTRY = 1
STOP_ENTRY = 2
RUN_ENTRY = 3


class Desk:
    def __init__(self):
        self.machine = None
        self.stops = {}
        self.journal = []


def has_room(desk, more):
    return len(desk.journal) + more <= JOURNAL_MOST


def load(desk, parts, pairs):
    if not are_parts(parts):
        return [WRONG]
    if not are_pairs(pairs):
        return [WRONG_FORM]
    desk.machine = Machine(parts, pairs)
    desk.stops = {}
    desk.journal = parts + [len(pairs)] + pairs
    return [0]


def put(desk, address, word):
    if not is_address(address) or not is_word(word):
        return [WRONG]
    if not has_room(desk, 3):
        return [JOURNAL_FULL]
    desk.machine.drum[address] = word
    desk.journal.extend([PUT_ENTRY, address, word])
    return [0]


def stop(desk, address, on):
    if not is_address(address) or not 0 <= on <= 1:
        return [WRONG]
    if (address in desk.stops) == (on == 1):
        return [0, 0]
    if on == 1 and len(desk.stops) >= STOPS_MOST:
        return [TOO_MANY]
    if not has_room(desk, 3):
        return [JOURNAL_FULL]
    if on == 1:
        desk.stops[address] = True
    else:
        desk.stops.pop(address)
    desk.journal.extend([STOP_ENTRY, address, on])
    return [0, 1]


def are_words(numbers):
    return all([is_word(number) for number in numbers])


def are_cards(words):
    return len(words) <= HANDED_MOST and len(words) % CARD_SIZE == 0 and are_words(words)


def cards_of(words):
    return [words[first:first + CARD_SIZE] for first in range(0, len(words), CARD_SIZE)]


def hand(desk, words):
    hopper = desk.machine.hopper
    if not are_cards(words):
        return [WRONG]
    if len(hopper) + len(words) // CARD_SIZE > HOPPER_MOST:
        return [TOO_MANY]
    hopper.extend(cards_of(words))
    return [0, len(hopper)]


def run(desk, orders, until, pause):
    if not 0 <= orders <= ORDERS_MOST or not is_tick(until) or not 0 <= pause <= PAUSE_MOST:
        return [WRONG]
    if not has_room(desk, 3 + CARD_SIZE * len(desk.machine.hopper)):
        return [JOURNAL_FULL]
    this_run = Run(desk.machine, desk.stops)
    end = go_on(this_run, orders, until, pause)
    if this_run.begun > 0:
        note_run(desk, this_run)
    return [0, end, this_run.begun, len(cards_read(this_run)), punched(this_run)]


def note_run(desk, this_run):
    cards = cards_read(this_run)
    desk.journal.extend([RUN_ENTRY, this_run.begun, len(cards)])
    for card in cards:
        desk.journal.extend(card)


def told(desk):
    machine = desk.machine
    return [0, machine.state, machine.over, machine.order_at, machine.tick, machine.a, machine.d]


def peek(desk, address):
    if not is_address(address):
        return [WRONG]
    return [0, desk.machine.drum[address]]


def tray(desk):
    machine = desk.machine
    words = []
    for card in machine.tray:
        words.extend(card)
    machine.tray = []
    return [0] + words


def journal(desk):
    return [0] + desk.journal
