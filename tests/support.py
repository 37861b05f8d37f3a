"""Calls written short, and questions about the machine."""

import unittest

from drumdesk.desk import answers

LAST_TICK = 2 ** 64 - 1
WORD = 10 ** 10 - 1
LONG = 10 ** 20 - 1
FAR = 10 ** 20

HLT, NOP = 0, 1
LDA, LDN, ADD, SUB, ADM, SBM, ADU, SBU, LDD = range(10, 19)
MUL, DIV = 20, 21
STL, STU, STD = 30, 31, 32
SHL, SHR, SRR, SCT = 40, 41, 42, 43
BMI, BNZ, BOV = 50, 51, 52
TLU = 60
RDC, PCH = 70, 71

# The questions below use these addresses; what is tested keeps off them.
YES, NO = 1900, 1901
STEP_1, STEP_2, STEP_3 = 1910, 1911, 1912
LOWER, UPPER, KEPT = 1920, 1921, 1922


def order(code, d=0, n=0):
    return code * 10 ** 8 + d * 10 ** 4 + n


def pairs(words):
    row = []
    for address in sorted(words):
        if words[address] != 0:
            row += [address, words[address]]
    return row


def load(words=None, state=0, over=0, n=0, t=0, a=0, d=0):
    return load_row(pairs(words or {}), state, over, n, t, a, d)


def load_row(row, state=0, over=0, n=0, t=0, a=0, d=0):
    return [1, state, over, n, t, a, d, len(row)] + list(row)


def put(address, word):
    return [2, address, word]


def stop(address, on=1):
    return [3, address, on]


def hand(words):
    return [4, len(words)] + list(words)


def run(orders, until=LAST_TICK, pause=0):
    return [5, orders, until, pause]


def told():
    return [6]


def peek(address):
    return [7, address]


def tray():
    return [8]


def journal():
    return [9]


def play(row):
    return [10, len(row)] + list(row)


# Journals, entry by entry.

def head(words=None, state=0, over=0, n=0, t=0, a=0, d=0):
    return load(words, state, over, n, t, a, d)[1:]


def was_run(orders, cards=()):
    return [3, orders, len(cards) // 8] + list(cards)


def split(row):
    parts = []
    at = 0
    while at < len(row):
        parts.append(row[at + 1:at + 1 + row[at]])
        at += 1 + row[at]
    return parts


def answered(*calls):
    return split(answers([number for call in calls for number in call]))


def last(*calls):
    return answered(*calls)[-1]


class DeskTest(unittest.TestCase):
    """calls: what was done so far; n: where the next order lies then, on a machine that isn't stopped."""

    def assert_tick(self, calls, tick):
        self.assertEqual(last(*calls, run(1, tick)), [0, 2, 0, 0, 0], "T is below %d" % tick)
        if tick < LAST_TICK:
            self.assertNotEqual(last(*calls, run(1, tick + 1))[1:3], [2, 0], "T is above %d" % tick)

    def assert_answers_yes(self, calls, puts, what):
        asked = [put(address, word) for address, word in puts]
        self.assertEqual(last(*calls, *asked, stop(YES), run(9))[:2], [0, 3], what)

    def assert_next(self, calls, n):
        self.assert_answers_yes(calls, [(n, order(NOP, 0, YES))], "N isn't %d" % n)

    def assert_a(self, calls, n, value):
        size = abs(value)
        sign = -1 if value < 0 else 1
        self.assert_answers_yes(calls, [
            (n, order(BMI, STEP_1, NO) if value < 0 else order(BMI, NO, STEP_1)),
            (STEP_1, order(SUB, LOWER, STEP_2)),
            (STEP_2, order(SBU, UPPER, STEP_3)),
            (STEP_3, order(BNZ, NO, YES)),
            (LOWER, sign * (size % 10 ** 10)),
            (UPPER, sign * (size // 10 ** 10)),
        ], "A isn't %d" % value)

    def assert_d(self, calls, n, value):
        self.assert_answers_yes(calls, [
            (n, order(STD, KEPT, STEP_1)),
            (STEP_1, order(LDA, KEPT, STEP_2)),
            (STEP_2, order(SUB, LOWER, STEP_3)),
            (STEP_3, order(BNZ, NO, YES)),
            (LOWER, value),
        ], "D isn't %d" % value)

    def assert_word(self, calls, n, address, value):
        self.assert_answers_yes(calls, [
            (n, order(LDA, address, STEP_2)),
            (STEP_2, order(SUB, LOWER, STEP_3)),
            (STEP_3, order(BNZ, NO, YES)),
            (LOWER, value),
        ], "the word at %d isn't %d" % (address, value))

    def assert_over(self, calls, n, over):
        branch = order(BOV, YES, NO) if over == 1 else order(BOV, NO, YES)
        self.assert_answers_yes(calls, [(n, branch)], "over isn't %d" % over)

    def assert_refused(self, number, *calls):
        self.assertEqual(last(*calls), [number], calls[-1][:9])
