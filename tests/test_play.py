from tests.support import *

# Reads a card, adds its first word to a sum at 60, punches the card; over and over.
ADDING = {
    0: order(RDC, 40, 1), 1: order(LDA, 40, 2), 2: order(ADD, 60, 3), 3: order(STL, 60, 4), 4: order(PCH, 40, 0),
    70: -3, 1999: WORD,
}
CARDS = list(range(1, 41))
HISTORY = [
    load(ADDING, over=1, t=77, a=-5, d=6), put(60, 1000), stop(3), stop(1500), hand(CARDS), run(100), stop(1500, 0),
    run(100), tray(), run(100, 700), put(70, 0), run(4, LAST_TICK, 1), stop(4), run(9), stop(3, 0),
]
OTHER = [load({5: 5, 6: 6}, n=5, t=9), stop(77), hand([7] * 16), put(8, 8), load({0: order(PCH, 40, 0)}), stop(78),
         hand([7] * 16), run(2)]


def whole_state(*calls):
    """All that can be asked: the stops one by one, the drum, the hopper, the tray."""
    asked = [told(), journal(), hand([])] + [peek(address) for address in range(100)] + [peek(1999)]
    asked += [stop(address, 0) for address in range(1490, 1510)] + [stop(address, 0) for address in range(90)]
    return answered(*calls, *asked, tray())[len(calls):]


class Play(DeskTest):
    def journal_of(self, *calls):
        return last(*calls, journal())[1:]

    def test_a_machine_alone(self):
        row = head({3: 4, 1999: -5}, 6, 1, 1999, LAST_TICK, -LONG, WORD)
        self.assertEqual(answered(play(row), told(), journal(), peek(3), peek(1999), peek(4), tray()), [
            [0, 0, 0, 0, 11], [0, 6, 1, 1999, LAST_TICK, -LONG, WORD], [0] + row, [0, 4], [0, -5], [0, 0], [0]])

    def test_the_smallest_journal(self):
        self.assertEqual(last(play([0] * 7)), [0, 0, 0, 0, 7])

    def test_a_full_drum(self):
        row = [0] * 6 + [4000] + [number for address in range(2000) for number in (address, address + 1)]
        self.assertEqual(answered(play(row), peek(0), peek(1999), journal()),
                         [[0, 0, 0, 0, 4007], [0, 1], [0, 2000], [0] + row])

    def test_put(self):
        row = head({3: 4}) + [1, 0, -WORD, 1, 1999, WORD, 1, 3, 0]
        self.assertEqual(answered(play(row), peek(0), peek(1999), peek(3), journal()),
                         [[0, 0, 0, 3, len(row)], [0, -WORD], [0, WORD], [0, 0], [0] + row])

    def test_stops_are_those_that_it_leads_to(self):
        row = head() + [2, 0, 1, 2, 1999, 1, 2, 0, 0, 2, 7, 1]
        self.assertEqual(answered(play(row), stop(0), stop(1999), stop(7), stop(8, 0), stop(7, 0))[1:],
                         [[0, 1], [0, 0], [0, 0], [0, 0], [0, 1]])

    def test_sixty_four_stops(self):
        row = head() + [number for address in range(64) for number in (2, address, 1)] + [2, 5, 0, 2, 1999, 1]
        self.assertEqual(answered(play(row), stop(1999), stop(64), stop(6, 0), stop(64)),
                         [[0, 0, 0, 66, len(row)], [0, 0], [-9], [0, 1], [0, 1]])

    def test_run(self):
        row = head({0: order(LDA, 9, 1), 1: order(STL, 10, 0), 9: 12}) + was_run(3)
        self.assertEqual(answered(play(row), told(), peek(10), journal()),
                         [[0, 0, 0, 1, len(row)], [0, 0, 0, 1, 91, 12, 12], [0, 12], [0] + row])

    def test_a_run_of_10000_orders(self):
        row = head({0: order(NOP, 0, 0)}) + was_run(10000) + was_run(1)
        self.assertEqual(answered(play(row), told()),
                         [[0, 0, 0, 2, len(row)], [0, 0, 0, 0, 400003, 0, 0]])

    def test_a_run_whose_last_order_stops(self):
        for word, state in ((0, 1), (-1, 2), (order(99), 3), (order(NOP, 0, 2000), 4), (order(SHL, 21, 0), 5),
                            (order(RDC, 40, 0), 6)):
            row = head({0: order(NOP, 0, 5), 5: word}) + was_run(2)
            self.assertEqual(answered(play(row), told()), [[0, 0, 0, 1, len(row)], [0, state, 0, 5, 8, 0, 0]])

    def test_a_run_with_cards(self):
        row = head({0: order(RDC, 40, 1), 1: order(RDC, 79, 0)}) + was_run(2, list(range(1, 17)))
        self.assertEqual(answered(play(row), peek(40), peek(47), peek(79), peek(46), hand([]))[1:],
                         [[0, 10], [0, 8], [0, 9], [0, 16], [0, 0]])

    def test_a_run_that_reads_its_cards_and_then_finds_none(self):
        row = head({0: order(RDC, 40, 0)}) + was_run(3, [5] * 16)
        self.assertEqual(answered(play(row), told())[1][:2], [0, 6])

    def test_more_cards_than_a_hopper_holds(self):
        row = head({0: order(RDC, 40, 0)}) + was_run(100, list(range(800)))
        self.assertEqual(answered(play(row), peek(40), peek(47), hand([1] * 512)),
                         [[0, 0, 0, 1, len(row)], [0, 792], [0, 799], [0, 64]])

    def test_what_a_run_punches_is_not_laid_into_the_tray(self):
        row = head({0: order(PCH, 40, 0), 40: 4}) + was_run(1) + was_run(200)
        self.assertEqual(answered(play(row), tray(), run(70), tray()),
                         [[0, 0, 0, 2, len(row)], [0], [0, 5, 64, 0, 64], [0] + [4, 0, 0, 0, 0, 0, 0, 0] * 64])

    def test_stops_do_not_end_a_run_that_is_played(self):
        row = head({0: order(NOP, 0, 5), 5: order(NOP, 0, 0)}) + [2, 5, 1, 2, 0, 1] + was_run(9)
        self.assertEqual(answered(play(row), told(), run(9)),
                         [[0, 0, 0, 3, len(row)], [0, 0, 0, 5, 163, 0, 0], [0, 3, 1, 0, 0]])

    def test_ticks_do_not_end_a_run_that_is_played(self):
        row = head({15: order(NOP, 0, 16), 16: order(NOP, 0, 15)}, n=15, t=LAST_TICK) + was_run(1)
        self.assertEqual(answered(play(row), told()), [[0, 0, 0, 1, len(row)], [0, 0, 0, 16, 2, 0, 0]])

    def test_a_machine_that_goes_past_the_last_tick(self):
        row = head({14: order(PCH, 9, 3), 3: order(NOP, 0, 9)}, n=14, t=LAST_TICK - 1) + was_run(2)
        self.assertEqual(last(play(row), told()), [0, 0, 0, 9, 86, 0, 0])

    def test_how_many_entries_and_numbers(self):
        row = head({0: order(RDC, 40, 0)}) + [1, 3, 4] + was_run(1, [1] * 8) + [2, 4, 1] + was_run(2, [1] * 16)
        self.assertEqual(last(play(row)), [0, 0, 0, 4, 9 + 3 + 11 + 3 + 19])

    def test_played_on_a_new_desk(self):
        row = self.journal_of(*HISTORY)
        entries = [1] + [2] * 2 + [3, 2] + [3, 3, 1, 3, 2, 3, 2]
        self.assertEqual(last(play(row)), [0, 0, 0, len(entries), len(row)])
        before = HISTORY + [hand([]), tray()]
        self.assertEqual(last(*HISTORY, told()), last(play(row), told()))
        self.assertEqual(last(*HISTORY, journal()), last(play(row), journal()))
        for address in list(range(100)) + [1999]:
            self.assertEqual(last(*before, peek(address)), last(play(row), peek(address)))
        for address in (3, 4, 1500):
            self.assertEqual(last(*HISTORY, stop(address)), last(play(row), stop(address)))

    def test_hopper_and_tray_are_empty(self):
        row = self.journal_of(*HISTORY)
        self.assertNotEqual(last(*HISTORY, hand([])), [0, 0])
        self.assertNotEqual(last(*HISTORY, tray()), [0])
        self.assertEqual(answered(play(row), hand([]), tray())[1:], [[0, 0], [0]])

    def test_played_on_a_desk_that_has_a_machine(self):
        row = self.journal_of(*HISTORY)
        self.assertEqual(whole_state(*OTHER, play(row)), whole_state(play(row)))
        self.assertEqual(whole_state(*HISTORY, play(row)), whole_state(play(row)))

    def test_nothing_is_left_of_the_other_machine(self):
        self.assertEqual(answered(*OTHER, play(head()), hand([]), tray(), stop(78, 0), peek(0), journal())[-6:],
                         [[0, 0, 0, 0, 7], [0, 0], [0], [0, 0], [0, 0], [0] + head()])

    def test_played_twice(self):
        row = self.journal_of(*HISTORY)
        self.assertEqual(whole_state(play(row), play(row)), whole_state(play(row)))

    def test_however_runs_were_cut(self):
        program = {0: order(LDA, 60, 1), 1: order(ADD, 61, 2), 2: order(STL, 60, 3), 3: order(MUL, 61, 0), 61: 37}
        for cut in ([12], [1] * 12, [5, 3, 4]):
            row = head(program) + [number for orders in cut for number in was_run(orders)]
            self.assertEqual(answered(play(row), told(), peek(60))[1:], [[0, 0, 0, 0, 566, 4107, 37], [0, 111]])

    def test_a_row_too_long(self):
        longest = head({1: 1}) + [1, 5, 6] * 6663
        self.assertEqual(len(longest), 19998)
        self.assertEqual(last(play(longest + [1, 5])), [0, 0, 0, 6663, 19998])
        self.assert_refused(-1, play(longest + [1, 5, 6]))
        self.assertEqual(answered(*OTHER, play(longest + [9, 9, 9]), journal())[-2:],
                         [[-1], last(*OTHER, journal())])
        self.assert_refused(-3, play(longest + [1, 5, 6]), told())


class BehindAPlay(DeskTest):
    ROW = head({0: order(RDC, 40, 1), 1: order(PCH, 40, 0)}) + [2, 1, 1] + was_run(2, [3] * 8)

    def test_put(self):
        self.assertEqual(answered(play(self.ROW), put(9, 9), peek(9), journal())[1:],
                         [[0], [0, 9], [0] + self.ROW + [1, 9, 9]])

    def test_stop(self):
        self.assertEqual(answered(play(self.ROW), stop(1), stop(1, 0), stop(1999), journal())[1:],
                         [[0, 0], [0, 1], [0, 1], [0] + self.ROW + [2, 1, 0, 2, 1999, 1]])

    def test_hand_run_and_tray(self):
        calls = [play(self.ROW), hand([5] * 16), run(9), run(9), tray(), journal(), told()]
        self.assertEqual(answered(*calls)[1:], [
            [0, 2], [0, 3, 1, 1, 0], [0, 3, 2, 1, 1], [0] + [5] * 8,
            [0] + self.ROW + was_run(1, [5] * 8) + was_run(2, [5] * 8), [0, 0, 0, 1, 383, 0, 0]])

    def test_runs_go_on_where_they_were(self):
        program = {0: order(LDA, 60, 1), 1: order(ADD, 61, 2), 2: order(STL, 60, 0), 61: 37}
        for orders in range(1, 9):
            self.assertEqual(answered(play(head(program) + was_run(orders)), run(9 - orders), told(), peek(60))[2:],
                             answered(load(program), run(9), told(), peek(60))[2:])

    def test_behind_a_torn_one_the_journal_goes_on_where_it_was_torn(self):
        for torn in ([1], [1, 5], [3, 5], [3, 1, 1] + [4] * 7):
            self.assertEqual(last(play(self.ROW + torn), put(9, 9), journal()), [0] + self.ROW + [1, 9, 9])

    def test_its_journal_played_again(self):
        calls = [play(self.ROW), hand([5] * 16), stop(0), run(9), put(50, 1), run(9), tray()]
        row = last(*calls, journal())[1:]
        self.assertEqual(answered(play(row), told(), journal())[1:], answered(*calls, told(), journal())[-2:])

    def test_a_load(self):
        self.assertEqual(answered(play(self.ROW), load(state=1), told(), journal(), stop(1, 0))[1:],
                         [[0], [0, 1, 0, 0, 0, 0, 0], [0] + head(state=1), [0, 0]])
