"""The machine's orders: what stops them, what each does, and its ticks."""

from drumdesk.machine import BAND_SIZE, CARD_SIZE, DRUM_SIZE, TICKS, around_band, first_tick_at, words_around
from drumdesk.words import WORD_SIZE, digit_sum, is_long, lower_twenty, lower_word, power_of_ten
from drumdesk.words import quotient_to_nearest, quotient_toward_zero, upper_word

# The codes that the rules of stopping speak of.
HALT = 0
NOTHING = 1
SHIFT_FIRST = 40
SCALE = 43
READ = 70
PUNCH = 71
MOST_SHIFT = 20


def code_of(word):
    return word // 100000000


def data_address(word):
    return word // 10000 % 10000


def next_address(word):
    return word % 10000


# What doesn't fit is told by over, and its lower twenty digits are kept.
def keep_in_a(machine, number):
    if is_long(number):
        machine.a = number
    else:
        machine.over = 1
        machine.a = lower_twenty(number)


# Each order from here on gives back its ticks behind.
# D holds the word at d already where the order begins with that.

def do_nothing(machine, at):
    return 0


def load_a(machine, at):
    machine.a = machine.d
    return 1


def load_negated(machine, at):
    machine.a = -machine.d
    return 1


def add(machine, at):
    keep_in_a(machine, machine.a + machine.d)
    return 2


def subtract(machine, at):
    keep_in_a(machine, machine.a - machine.d)
    return 2


def add_without_sign(machine, at):
    keep_in_a(machine, machine.a + abs(machine.d))
    return 2


def subtract_without_sign(machine, at):
    keep_in_a(machine, machine.a - abs(machine.d))
    return 2


def add_upper(machine, at):
    keep_in_a(machine, machine.a + machine.d * WORD_SIZE)
    return 2


def subtract_upper(machine, at):
    keep_in_a(machine, machine.a - machine.d * WORD_SIZE)
    return 2


def multiply(machine, at):
    machine.a = lower_word(machine.a) * machine.d
    return 4 + 2 * digit_sum(machine.d)


# The one comparison also finds a divisor of 0: A without its sign is never below 0.
def divide(machine, at):
    if abs(machine.a) >= abs(machine.d) * WORD_SIZE:
        machine.over = 1
        return 6
    quotient = quotient_toward_zero(machine.a, machine.d)
    machine.d = machine.a - quotient * machine.d
    machine.a = quotient
    return 6 + 2 * digit_sum(quotient)


def store_lower(machine, at):
    machine.drum[at] = lower_word(machine.a)
    return 0


def store_upper(machine, at):
    machine.drum[at] = upper_word(machine.a)
    return 0


def store_d(machine, at):
    machine.drum[at] = machine.d
    return 0


def shift_left(machine, at):
    keep_in_a(machine, machine.a * power_of_ten(at))
    return 2 + at


def shift_right(machine, at):
    machine.a = quotient_toward_zero(machine.a, power_of_ten(at))
    return 2 + at


def shift_right_rounded(machine, at):
    machine.a = quotient_to_nearest(machine.a, power_of_ten(at))
    return 2 + at


def scale(machine, at):
    count = 20
    if machine.a != 0:
        count = 20 - len(str(abs(machine.a)))
    machine.a = machine.a * power_of_ten(count)
    machine.d = count
    return 2 + count


def branch_below_zero(machine, at):
    if machine.a < 0:
        machine.order_at = at
    return 1


def branch_not_zero(machine, at):
    if machine.a != 0:
        machine.order_at = at
    return 1


def branch_over(machine, at):
    if machine.over == 1:
        machine.over = 0
        machine.order_at = at
    return 1


# The ticks in which words pass by before the one that's found are counted in with the ticks behind.
def look_up(machine, at):
    for before, word in enumerate(words_around(machine.drum, at)):
        if word >= machine.d:
            machine.a = before
            return before + 1
    machine.over = 1
    passed = BAND_SIZE - 1
    return passed + 1


def read_card(machine, at):
    card = machine.hopper.pop(0)
    for address, word in zip(around_band(at, CARD_SIZE), card):
        machine.drum[address] = word
    return 60


def punch_card(machine, at):
    machine.tray.append(words_around(machine.drum, at)[:CARD_SIZE])
    return 60


# HALT isn't among them: like a fault it only stops.
ORDERS = {
    1: do_nothing,
    10: load_a,
    11: load_negated,
    12: add,
    13: subtract,
    14: add_without_sign,
    15: subtract_without_sign,
    16: add_upper,
    17: subtract_upper,
    18: do_nothing,
    20: multiply,
    21: divide,
    30: store_lower,
    31: store_upper,
    32: store_d,
    40: shift_left,
    41: shift_right,
    42: shift_right_rounded,
    43: scale,
    50: branch_below_zero,
    51: branch_not_zero,
    52: branch_over,
    60: look_up,
    70: read_card,
    71: punch_card,
}


def begins_with_d(code):
    return 10 <= code <= 21


def waits_for_data(code):
    return 10 <= code <= 32 or code == 60


# The state that the order leads to: 0, 1 where it halts, or its fault.
def state_behind(word, has_card):
    if word < 0:
        return 2
    code = code_of(word)
    if code == HALT:
        return 1
    if code not in ORDERS:
        return 3
    if next_address(word) >= DRUM_SIZE:
        return 4
    if SHIFT_FIRST <= code <= SCALE:
        return 5 if code != SCALE and data_address(word) > MOST_SHIFT else 0
    if code != NOTHING and data_address(word) >= DRUM_SIZE:
        return 4
    if code == READ and not has_card:
        return 6
    return 0


def is_punching(word):
    return code_of(word) == PUNCH and state_behind(word, False) == 0


def do_order(machine):
    word = machine.drum[machine.order_at]
    tick = first_tick_at(machine.tick, machine.order_at) + 3
    machine.state = state_behind(word, len(machine.hopper) > 0)
    if machine.state == 0:
        tick = carry_out(machine, word, tick)
    machine.tick = tick % TICKS


# N is n at first, so that a branch only has to say where it differs.
def carry_out(machine, word, tick):
    code = code_of(word)
    at = data_address(word)
    machine.order_at = next_address(word)
    if waits_for_data(code):
        tick = first_tick_at(tick, at) + 1
    if begins_with_d(code):
        machine.d = machine.drum[at]
    return tick + ORDERS[code](machine, at)
