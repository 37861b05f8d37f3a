"""What the calls that are there don't show: states, what was punched, what was noted."""

import unittest

from drumdesk import desk as desk_file
from drumdesk.desk import Desk
from tests.support import *


def new_desk(words, *parts):
    desk = Desk()
    given = list(parts) + [0] * (6 - len(parts))
    assert desk_file.load(desk, given, pairs(words)) == [0]
    return desk


def run_one(desk):
    return desk_file.run(desk, 1, LAST_TICK, 0)


def told(desk):
    machine = desk.machine
    return [machine.state, machine.over, machine.order_at, machine.tick, machine.a, machine.d]


class States(unittest.TestCase):
    def assert_state(self, word, state, cards=0):
        desk = new_desk({47: word, 50: 99}, 0, 1, 47, 10, -8, 9)
        desk_file.hand(desk, [1] * 8 * cards)
        drum = list(desk.machine.drum)
        self.assertEqual(run_one(desk), [0, 0, 1, 0, 0], word)
        self.assertEqual(told(desk), [state, 1, 47, 50, -8, 9], word)
        self.assertEqual(desk.machine.drum, drum, word)
        self.assertEqual(len(desk.machine.hopper), cards)
        self.assertEqual(desk.machine.tray, [])

    def test_halt(self):
        for word in (0, order(HLT, 2000, 0), order(HLT, 0, 2000), order(HLT, 9999, 9999)):
            self.assert_state(word, 1)

    def test_over_becomes_0_and_1_and_nothing_else(self):
        desk = new_desk({0: order(BOV, 5, 7), 5: order(DIV, 50, 8)}, 0, 1)
        run_one(desk)
        self.assertEqual(told(desk), [0, 0, 5, 4, 0, 0])
        run_one(desk)
        self.assertEqual(told(desk), [0, 1, 8, 17, 0, 0])

    def test_below_0(self):
        for word in (-1, -order(99, 9999, 9999), -order(NOP)):
            self.assert_state(word, 2)

    def test_no_such_code(self):
        for code in (2, 9, 19, 22, 29, 33, 39, 44, 49, 53, 59, 61, 69, 72, 99):
            self.assert_state(order(code), 3)
            self.assert_state(order(code, 9999, 9999), 3)

    def test_addresses(self):
        for word in (order(NOP, 0, 2000), order(LDA, 50, 2000), order(LDA, 2000, 7), order(BMI, 2000, 7),
                     order(SHL, 5, 2000), order(SCT, 5, 2000), order(PCH, 2000, 7)):
            self.assert_state(word, 4)

    def test_shifts(self):
        for code in (SHL, SHR, SRR):
            self.assert_state(order(code, 21, 7), 5)
            self.assert_state(order(code, 2000, 7), 5)
            self.assert_state(order(code, 21, 2000), 4)

    def test_no_card(self):
        self.assert_state(order(RDC, 50, 7), 6)
        self.assert_state(order(RDC, 2000, 7), 4)
        self.assert_state(order(RDC, 50, 2000), 4)
        self.assert_state(order(RDC, 2000, 7), 4, cards=2)

    def test_the_tick_past_the_last(self):
        desk = new_desk({}, 0, 0, 14, LAST_TICK - 1)
        run_one(desk)
        self.assertEqual(told(desk), [1, 0, 14, 1, 0, 0])


class Punched(unittest.TestCase):
    WORDS = {address: address + 1000 for address in range(80, 120)}

    def punched(self, at):
        desk = new_desk({0: order(PCH, at, 7), **self.WORDS})
        run_one(desk)
        return desk.machine.tray

    def test_eight_words_from_d_on(self):
        self.assertEqual(self.punched(90), [list(range(1090, 1098))])

    def test_around_the_band(self):
        self.assertEqual(self.punched(112), [list(range(1112, 1120))])
        self.assertEqual(self.punched(113), [list(range(1113, 1120)) + [1080]])
        self.assertEqual(self.punched(119), [[1119] + list(range(1080, 1087))])

    def test_a_card_keeps_what_was_punched(self):
        desk = new_desk({0: order(PCH, 90, 0), **self.WORDS})
        run_one(desk)
        desk_file.put(desk, 90, 5)
        run_one(desk)
        self.assertEqual([card[0] for card in desk.machine.tray], [1090, 5])


class Noted(unittest.TestCase):
    def test_load(self):
        desk = new_desk({0: 5, 1999: -6}, 0, 1, 2, 3, 4, -5)
        self.assertEqual(desk.journal, [0, 1, 2, 3, 4, -5, 4, 0, 5, 1999, -6])
        desk_file.put(desk, 1, 1)
        desk_file.load(desk, [1, 0, 0, 0, 0, 0], [])
        self.assertEqual(desk.journal, [1, 0, 0, 0, 0, 0, 0])

    def test_what_was_done(self):
        desk = new_desk({0: order(RDC, 40, 0)})
        start = list(desk.journal)
        desk_file.put(desk, 50, -7)
        desk_file.stop(desk, 9, 1)
        desk_file.hand(desk, list(range(24)))
        desk_file.run(desk, 2, LAST_TICK, 0)
        desk_file.stop(desk, 9, 0)
        run_one(desk)
        done = [1, 50, -7, 2, 9, 1, 3, 2, 2] + list(range(16)) + [2, 9, 0, 3, 1, 1] + list(range(16, 24))
        self.assertEqual(desk.journal, start + done)

    def test_what_is_not_noted(self):
        desk = new_desk({})
        start = list(desk.journal)
        desk_file.stop(desk, 9, 0)
        desk_file.run(desk, 0, LAST_TICK, 0)
        desk_file.run(desk, 5, 0, 0)
        desk_file.put(desk, 2000, 0)
        desk_file.stop(desk, 2000, 1)
        desk_file.run(desk, 10001, 0, 0)
        desk_file.load(desk, [7, 0, 0, 0, 0, 0], [])
        self.assertEqual(desk.journal, start)
        desk_file.stop(desk, 9, 1)
        desk_file.stop(desk, 9, 1)
        self.assertEqual(desk.journal, start + [2, 9, 1])

    def test_a_run_that_stops_is_noted(self):
        desk = new_desk({})
        run_one(desk)
        run_one(desk)
        self.assertEqual(desk.journal, [0, 0, 0, 0, 0, 0, 0, 3, 1, 0])


class FullJournal(unittest.TestCase):
    """A line of calls can't come to a full journal; the desk refuses all the same."""

    def desk_with(self, room, words=None):
        desk = new_desk(words or {})
        desk.journal.extend([0] * (20000 - room - len(desk.journal)))
        return desk

    def test_put(self):
        self.assertEqual(desk_file.put(self.desk_with(3), 5, 9), [0])
        desk = self.desk_with(2)
        self.assertEqual(desk_file.put(desk, 5, 9), [-7])
        self.assertEqual((desk.machine.drum[5], len(desk.journal)), (0, 19998))
        self.assertEqual(desk_file.put(desk, 2000, 9), [-1])

    def test_stop(self):
        self.assertEqual(desk_file.stop(self.desk_with(3), 5, 1), [0, 1])
        desk = self.desk_with(2)
        self.assertEqual(desk_file.stop(desk, 5, 1), [-7])
        self.assertEqual(desk_file.stop(desk, 5, 0), [0, 0])
        self.assertEqual(desk_file.stop(desk, 5, 2), [-1])

    def test_stop_taken_away(self):
        desk = self.desk_with(5)
        desk_file.stop(desk, 5, 1)
        self.assertEqual(desk_file.stop(desk, 5, 0), [-7])
        self.assertEqual(desk_file.stop(desk, 5, 1), [0, 0])

    def test_minus_9_ahead_of_minus_7(self):
        desk = self.desk_with(64 * 3)
        for address in range(64):
            self.assertEqual(desk_file.stop(desk, address, 1), [0, 1])
        self.assertEqual(desk_file.stop(desk, 64, 1), [-9])
        self.assertEqual(desk_file.stop(desk, 0, 0), [-7])

    def test_run(self):
        self.assertEqual(run_one(self.desk_with(3)), [0, 0, 1, 0, 0])
        self.assertEqual(run_one(self.desk_with(2)), [-7])
        self.assertEqual(desk_file.run(self.desk_with(2), 0, 0, 0), [-7])
        self.assertEqual(desk_file.run(self.desk_with(2), 0, 0, 65), [-1])

    def test_run_counts_the_hopper(self):
        for room, answer in ((19, [0, 0, 1, 0, 0]), (18, [-7])):
            desk = self.desk_with(room)
            desk_file.hand(desk, [1] * 16)
            self.assertEqual(run_one(desk), answer)
