"""A journal played: what its numbers lead to, or the first fault in them."""

from drumdesk.controls import JOURNAL_MOST, ORDERS_MOST, PUT_ENTRY, RUN_ENTRY, STOP_ENTRY, WRONG
from drumdesk.controls import Desk, are_words, cards_of, load, note_run, put, stop
from drumdesk.machine import CARD_SIZE, are_pairs, are_parts
from drumdesk.runs import Run, go_through

PARTS_SIZE = 6
HEAD_SIZE = 7
ENTRY_SIZE = 3
CARDS_MOST = 10000

NO_FAULT = 0
NO_HEAD = 1
NOT_LOADED = 2
WRONG_ENTRY = 3


def pairs_end(numbers):
    return HEAD_SIZE + numbers[PARTS_SIZE]


def has_head(numbers):
    if len(numbers) < HEAD_SIZE or numbers[PARTS_SIZE] < 0:
        return False
    return pairs_end(numbers) <= len(numbers)


def fault_of_machine(numbers):
    if not has_head(numbers):
        return NO_HEAD
    if not are_parts(numbers[:PARTS_SIZE]) or not are_pairs(numbers[HEAD_SIZE:pairs_end(numbers)]):
        return NOT_LOADED
    return NO_FAULT


def has_three(numbers, at):
    return at + ENTRY_SIZE <= len(numbers)


# This is asked before an entry is known to be whole: without a number of cards
# that can be, nobody could tell where a run ends.
def begins_wrong(numbers, at):
    if numbers[at] == RUN_ENTRY:
        return has_three(numbers, at) and not 0 <= numbers[at + 2] <= CARDS_MOST
    return numbers[at] != PUT_ENTRY and numbers[at] != STOP_ENTRY


def entry_end(numbers, at):
    if numbers[at] == RUN_ENTRY and has_three(numbers, at):
        return at + ENTRY_SIZE + CARD_SIZE * numbers[at + 2]
    return at + ENTRY_SIZE


# The tray is emptied behind each run: what is punched while playing was in somebody's hands already.
def play_run(desk, orders, words):
    if not 1 <= orders <= ORDERS_MOST or not are_words(words):
        return False
    machine = desk.machine
    machine.hopper = cards_of(words)
    this_run = Run(machine, desk.stops)
    go_through(this_run, orders)
    machine.tray = []
    if this_run.begun < orders or len(machine.hopper) > 0:
        return False
    note_run(desk, this_run)
    return True


# Whether the entry could be done.
def play_entry(desk, entry):
    if entry[0] == PUT_ENTRY:
        return put(desk, entry[1], entry[2]) == [0]
    if entry[0] == STOP_ENTRY:
        return stop(desk, entry[1], entry[2]) == [0, 1]
    return play_run(desk, entry[1], entry[ENTRY_SIZE:])


def fault(kind, place):
    return [0, kind, place, 0, 0]


# All is done at a desk of its own, so that at fault the other one is as it was.
def play(desk, numbers):
    if len(numbers) > JOURNAL_MOST:
        return [WRONG]
    kind = fault_of_machine(numbers)
    if kind != NO_FAULT:
        return fault(kind, 0)
    at = pairs_end(numbers)
    played = Desk()
    load(played, numbers[:PARTS_SIZE], numbers[HEAD_SIZE:at])
    done = 0
    while at < len(numbers):
        if begins_wrong(numbers, at):
            return fault(WRONG_ENTRY, at)
        end = entry_end(numbers, at)
        if end > len(numbers):
            break
        if not play_entry(played, numbers[at:end]):
            return fault(WRONG_ENTRY, at)
        done += 1
        at = end
    take_over(desk, played)
    return [0, NO_FAULT, 0, done, at]


def take_over(desk, played):
    desk.machine = played.machine
    desk.stops = played.stops
    desk.journal = played.journal
