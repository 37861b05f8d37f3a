from tests.support import *

OTHER = [load({0: order(RDC, 40, 1), 1: order(PCH, 40, 0), 9: 4}, over=1, t=3, a=-4, d=5), stop(7), hand([6] * 24),
         run(2), put(9, 8)]
ASKED = [told(), journal(), peek(0), peek(9), peek(40), stop(7), stop(8, 0), hand([]), tray(), run(3), tray()]

READING = {0: order(RDC, 40, 0)}
LOOPING = {0: order(NOP, 0, 0)}


class Faults(DeskTest):
    def assert_fault(self, row, kind, place):
        told_of = [0, kind, place, 0, 0]
        self.assertEqual(last(play(row)), told_of, row[-4:])
        self.assertEqual(answered(play(row), told(), journal())[1:], [[-3], [-3]], row[-4:])
        self.assertEqual(answered(*OTHER, play(row), *ASKED),
                         answered(*OTHER) + [told_of] + answered(*OTHER, *ASKED)[len(OTHER):], row[-4:])

    def assert_entry_fault(self, start, entry):
        self.assertEqual(last(play(start))[:3], [0, 0, 0])
        self.assert_fault(start + entry, 3, len(start))
        self.assert_fault(start + entry + [1, 5, 5], 3, len(start))

    def assert_played(self, row):
        self.assertEqual(last(play(row))[:3], [0, 0, 0], row[-4:])
        self.assertEqual(last(play(row))[4], len(row))


class FaultsOfTheMachine(Faults):
    def test_1_fewer_than_seven_numbers(self):
        for size in range(7):
            self.assert_fault([0] * size, 1, 0)
            self.assert_fault([-1] * size, 1, 0)
        self.assert_played([0] * 7)

    def test_1_the_seventh_below_0(self):
        for count in (-1, -2, -FAR):
            self.assert_fault([0] * 6 + [count], 1, 0)
            self.assert_fault([0] * 6 + [count, 1, 5, 6], 1, 0)

    def test_1_fewer_numbers_behind_it(self):
        self.assert_fault([0] * 6 + [1], 1, 0)
        self.assert_fault([0] * 6 + [2, 5], 1, 0)
        self.assert_fault([0] * 6 + [4, 5, 6, 7], 1, 0)
        self.assert_fault([0] * 6 + [FAR, 5, 6, 7], 1, 0)
        self.assert_played([0] * 6 + [4, 5, 6, 7, 8])

    def test_1_ahead_of_2(self):
        self.assert_fault([7, 2, -1, -1, FAR, FAR], 1, 0)
        self.assert_fault([7, 0, 0, 0, 0, 0, -1], 1, 0)
        self.assert_fault([7, 0, 0, 0, 0, 0, 2, 5], 1, 0)
        self.assert_fault([0] * 6 + [3, 5, 0], 1, 0)

    def test_2_parts(self):
        for parts in ({"state": -1}, {"state": 7}, {"over": -1}, {"over": 2}, {"n": -1}, {"n": 2000}, {"t": -1},
                      {"t": 2 ** 64}, {"a": LONG + 1}, {"a": -LONG - 1}, {"d": WORD + 1}, {"d": -WORD - 1},
                      {"state": FAR}, {"n": -FAR}):
            self.assert_fault(head({5: 6}, **parts), 2, 0)
        for parts in ({"state": 6}, {"over": 1}, {"n": 1999}, {"t": LAST_TICK}, {"a": LONG}, {"a": -LONG},
                      {"d": WORD}, {"d": -WORD}):
            self.assert_played(head({5: 6}, **parts))

    def test_2_drum(self):
        for row in ([5], [5, 6, 7], [-1, 5], [2000, 5], [5, 0], [5, WORD + 1], [5, -WORD - 1], [5, 6, 5, 6],
                    [5, 6, 4, 6], [5, 6, 2000, 6], [FAR, 6], [5, -FAR], [5, 6, 6, 0]):
            self.assert_fault([0] * 6 + [len(row)] + row, 2, 0)
        for row in ([0, 5], [1999, 5], [5, WORD], [5, -WORD], [5, 6, 6, 6]):
            self.assert_played([0] * 6 + [len(row)] + row)

    def test_2_ahead_of_3(self):
        self.assert_fault(head(state=7) + [4], 2, 0)
        self.assert_fault([0] * 6 + [1, 5, 4], 2, 0)


class FaultsOfEntries(Faults):
    START = head(LOOPING) + [1, 3, 4] + was_run(2)

    def test_a_first_number_whole_or_not(self):
        for number in (0, 4, -1, 10, FAR, -FAR):
            for more in ([], [5], [5, 5], [5, 5, 1, 5, 5]):
                self.assert_fault(head() + [number] + more, 3, 7)
                self.assert_fault(self.START + [number] + more, 3, len(self.START))

    def test_put(self):
        for entry in ([1, -1, 5], [1, 2000, 5], [1, FAR, 5], [1, 5, WORD + 1], [1, 5, -WORD - 1], [1, 5, FAR],
                      [1, -FAR, -FAR]):
            self.assert_entry_fault(self.START, entry)
        for entry in ([1, 0, 5], [1, 1999, 5], [1, 5, WORD], [1, 5, -WORD], [1, 5, 0]):
            self.assert_played(self.START + entry)

    def test_stop(self):
        for entry in ([2, -1, 1], [2, 2000, 1], [2, 2000, 0], [2, FAR, 1], [2, 5, -1], [2, 5, 2], [2, 5, FAR]):
            self.assert_entry_fault(self.START, entry)
        for entry in ([2, 0, 1], [2, 1999, 1], [2, 0, 1, 2, 0, 0], [2, 1999, 1, 2, 1999, 0]):
            self.assert_played(self.START + entry)

    def test_a_stop_that_is_set_already(self):
        self.assert_entry_fault(self.START + [2, 5, 1], [2, 5, 1])
        self.assert_entry_fault(self.START + [2, 5, 1, 2, 5, 0, 2, 5, 1], [2, 5, 1])

    def test_a_stop_that_is_not_there(self):
        self.assert_entry_fault(self.START, [2, 5, 0])
        self.assert_entry_fault(self.START + [2, 6, 1], [2, 5, 0])
        self.assert_entry_fault(self.START + [2, 5, 1, 2, 5, 0], [2, 5, 0])

    def test_the_sixty_fifth_stop(self):
        stops = [number for address in range(64) for number in (2, address, 1)]
        self.assert_entry_fault(self.START + stops, [2, 64, 1])
        self.assert_entry_fault(self.START + stops, [2, 63, 1])
        self.assert_played(self.START + stops + [2, 3, 0, 2, 64, 1])

    def test_stops_of_the_desk_do_not_count(self):
        row = self.START + [2, 5, 1]
        self.assertEqual(last(load(), stop(5), play(row))[:3], [0, 0, 0])
        self.assertEqual(last(load(), stop(5), play(self.START + [2, 5, 0])), [0, 3, len(self.START), 0, 0])
        sixty_four = [stop(address) for address in range(64)]
        self.assertEqual(last(load(), *sixty_four, play(self.START + [2, 64, 1]))[:3], [0, 0, 0])


class FaultsOfRuns(Faults):
    def test_orders(self):
        start = head(LOOPING)
        for orders in (0, -1, 10001, FAR, -FAR):
            self.assert_entry_fault(start, was_run(orders))
        for orders in (1, 10000):
            self.assert_played(start + was_run(orders))

    def test_orders_of_a_run_with_cards_are_seen_with_the_last_card_only(self):
        start = head(READING)
        for orders in (0, 10001):
            row = start + was_run(orders, [1] * 8)
            self.assertEqual(last(play(row[:-1])), [0, 0, 0, 0, len(start)])
            self.assert_entry_fault(start, was_run(orders, [1] * 8))

    def test_a_number_of_cards_as_soon_as_the_three_are_there(self):
        start = head(READING) + was_run(1, [1] * 8)
        for cards in (-1, 10001, FAR, -FAR):
            for orders in (1, 0, 10001):
                self.assert_fault(start + [3, orders, cards], 3, len(start))
                self.assert_fault(start + [3, orders, cards] + [1] * 24, 3, len(start))
        self.assertEqual(last(play(start + [3, 1])), [0, 0, 0, 1, len(start)])
        self.assertEqual(last(play(start + [3, 1, 10000])), [0, 0, 0, 1, len(start)])
        self.assertEqual(last(play(start + [3, 1, 10000] + [1] * 8)), [0, 0, 0, 1, len(start)])

    def test_what_is_no_word_on_a_card(self):
        start = head(READING)
        for place in range(16):
            for number in (WORD + 1, -WORD - 1, FAR):
                cards = [1] * 16
                cards[place] = number
                self.assert_entry_fault(start, was_run(2, cards))
        self.assert_played(start + was_run(2, [WORD, -WORD] * 8))

    def test_not_so_many_orders_begun(self):
        self.assert_played(head() + was_run(1))
        self.assert_entry_fault(head(), was_run(2))
        self.assert_entry_fault(head() + was_run(1), was_run(1))
        for state in range(1, 7):
            self.assert_entry_fault(head(LOOPING, state=state), was_run(1))
        program = {0: order(NOP, 0, 5), 5: order(NOP, 0, 6), 6: -1}
        self.assert_played(head(program) + was_run(3))
        self.assert_entry_fault(head(program), was_run(4))
        self.assert_entry_fault(head(program), was_run(10000))

    def test_too_few_cards(self):
        self.assert_played(head(READING) + was_run(2, [1] * 16))
        self.assert_played(head(READING) + was_run(2, [1] * 8))
        self.assert_entry_fault(head(READING), was_run(3, [1] * 8))
        self.assert_entry_fault(head(READING), was_run(2))

    def test_too_many_cards(self):
        self.assert_entry_fault(head(READING), was_run(1, [1] * 16))
        self.assert_entry_fault(head(LOOPING), was_run(1, [1] * 8))
        self.assert_entry_fault(head(READING), was_run(100, [1] * 808))
        self.assert_entry_fault(head(), was_run(1, [1] * 8))

    def test_cards_of_the_desk_and_of_other_runs_are_not_read(self):
        row = head(READING) + was_run(2, [1] * 8)
        self.assertEqual(answered(load(READING), hand([9] * 64), play(row), told())[-1][:2], [0, 6])
        self.assert_entry_fault(head(READING) + was_run(1, [1] * 8), was_run(2))

    def test_the_first_fault(self):
        start = head(LOOPING)
        self.assert_fault(start + [2, 5, 0, 4], 3, len(start))
        self.assert_fault(start + [1, 5, 5, 4, 2, 5, 0], 3, len(start) + 3)
        self.assert_fault(start + was_run(0) + was_run(-1), 3, len(start))
        self.assert_fault(start + was_run(1, [1] * 8) + [4], 3, len(start))
