"""The machine: its drum and its other parts, and what may be loaded as one."""

from drumdesk.words import is_long, is_word

DRUM_SIZE = 2000
BAND_SIZE = 40
CARD_SIZE = 8
TICKS = 18446744073709551616


# The hopper and the tray stand at the machine, so that its card orders reach them;
# a machine that's loaded comes with both of them empty.
class Machine:
    def __init__(self, parts, pairs):
        self.state = parts[0]
        self.over = parts[1]
        self.order_at = parts[2]
        self.tick = parts[3]
        self.a = parts[4]
        self.d = parts[5]
        self.drum = drum_of(pairs)
        self.hopper = []
        self.tray = []


def drum_of(pairs):
    drum = [0] * DRUM_SIZE
    for place in range(0, len(pairs), 2):
        drum[pairs[place]] = pairs[place + 1]
    return drum


def is_address(number):
    return 0 <= number < DRUM_SIZE


def is_tick(number):
    return 0 <= number < TICKS


# parts: state, over, N, T, A, D.
def are_parts(parts):
    if not 0 <= parts[0] <= 6 or not 0 <= parts[1] <= 1:
        return False
    if not is_address(parts[2]) or not is_tick(parts[3]):
        return False
    return is_long(parts[4]) and is_word(parts[5])


# pairs: the journal's form of a drum, each word that isn't 0 behind its address.
def are_pairs(pairs):
    if len(pairs) % 2 != 0:
        return False
    last = -1
    for place in range(0, len(pairs), 2):
        address = pairs[place]
        word = pairs[place + 1]
        if address <= last or not is_address(address):
            return False
        if word == 0 or not is_word(word):
            return False
        last = address
    return True


def first_tick_at(tick, address):
    return tick + (address - tick) % BAND_SIZE


def band_start(address):
    return address - address % BAND_SIZE


def around_band(address, count):
    first = band_start(address)
    return [first + (address + step) % BAND_SIZE for step in range(count)]


# The words of the address's band, from it on and around.
def words_around(drum, address):
    first = band_start(address)
    return drum[address:first + BAND_SIZE] + drum[first:address]
