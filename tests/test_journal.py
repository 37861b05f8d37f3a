from tests.support import *

READING = {0: order(RDC, 40, 0)}
START = head(READING)


class Journal(DeskTest):
    def assert_journal(self, numbers, *calls):
        self.assertEqual(last(*calls, journal()), [0] + numbers)

    def test_without_a_machine(self):
        self.assert_refused(-3, journal())
        self.assert_refused(-3, load(d=WORD + 1), journal())

    def test_load(self):
        self.assert_journal([0, 0, 0, 0, 0, 0, 0], load())
        self.assert_journal([0, 1, 2, 3, 4, -5, 4, 0, 5, 1999, -6], load({0: 5, 1999: -6}, 0, 1, 2, 3, 4, -5))
        self.assert_journal([6, 1, 1999, LAST_TICK, LONG, -WORD, 0], load({}, 6, 1, 1999, LAST_TICK, LONG, -WORD))

    def test_a_drum_without_a_0(self):
        row = [number for address in range(2000) for number in (address, address - 2000)]
        self.assert_journal([0] * 6 + [4000] + row, load_row(row))

    def test_a_load_begins_it_anew(self):
        self.assert_journal([1, 0, 0, 0, 0, 0, 0], load(READING), put(1, 1), stop(1), load(state=1))

    def test_put(self):
        self.assert_journal(START + [1, 50, -7], load(READING), put(50, -7))
        self.assert_journal(START + [1, 0, WORD, 1, 1999, -WORD], load(READING), put(0, WORD), put(1999, -WORD))

    def test_put_what_was_there_already(self):
        self.assert_journal(START + [1, 9, 0, 1, 9, 0], load(READING), put(9, 0), put(9, 0))

    def test_what_the_loaded_drum_was_stays(self):
        self.assert_journal(START + [1, 0, 0], load(READING), put(0, 0))

    def test_stop_only_where_it_is_otherwise(self):
        calls = [load(READING), stop(9, 0), stop(9), stop(9), stop(1999), stop(9, 0), stop(9, 0), stop(9)]
        self.assert_journal(START + [2, 9, 1, 2, 1999, 1, 2, 9, 0, 2, 9, 1], *calls)

    def test_hand_is_not_noted(self):
        self.assert_journal(START, load(READING), hand([1] * 8))

    def test_run(self):
        self.assert_journal(head() + [3, 1, 0], load(), run(5))
        self.assert_journal(head({0: order(NOP)}) + [3, 10000, 0, 3, 5, 0], load({0: order(NOP)}), run(10000), run(5))

    def test_orders_begun_and_not_orders_wanted(self):
        program = {0: order(NOP, 0, 5), 5: order(NOP, 0, 0)}
        self.assert_journal(head(program) + [3, 2, 0], load(program), run(9, 4))
        self.assert_journal(head(program) + [2, 5, 1, 3, 1, 0], load(program), stop(5), run(9))
        punching = {0: order(PCH, 40, 0)}
        self.assert_journal(head(punching) + [3, 3, 0], load(punching), run(9, LAST_TICK, 3))
        self.assert_journal(head(punching) + [3, 64, 0], load(punching), run(9999), run(9999))

    def test_a_run_without_an_order_begun_is_not_noted(self):
        self.assert_journal(START, load(READING), run(0), run(5, 0))
        self.assert_journal(head(state=1), load(state=1), run(5))
        self.assert_journal(head() + [3, 1, 0], load(), run(5), run(5))

    def test_the_cards_that_were_read(self):
        calls = [load(READING), hand(list(range(24))), run(2)]
        self.assert_journal(START + [3, 2, 2] + list(range(16)), *calls)
        self.assert_journal(START + [3, 2, 2] + list(range(16)) + [3, 1, 1] + list(range(16, 24)), *calls, run(1))

    def test_cards_handed_in_one_after_another(self):
        calls = [load(READING), hand([1] * 8), hand([-WORD] * 8 + [WORD] * 8), run(1), run(2)]
        self.assert_journal(START + [3, 1, 1] + [1] * 8 + [3, 2, 2] + [-WORD] * 8 + [WORD] * 8, *calls)

    def test_a_run_that_finds_no_card(self):
        self.assert_journal(START + [3, 2, 1] + [4] * 8, load(READING), hand([4] * 8), run(9))

    def test_sixty_four_cards(self):
        cards = list(range(512))
        self.assert_journal(START + [3, 64, 64] + cards, load(READING), hand(cards), run(64))

    def test_tray_told_peek_and_journal_are_not_noted(self):
        punching = {0: order(PCH, 40, 0)}
        calls = [load(punching), run(3), tray(), told(), peek(3), journal(), tray()]
        self.assert_journal(head(punching) + [3, 3, 0], *calls)

    def test_what_is_refused_is_not_noted(self):
        sixty_four = [stop(address) for address in range(64)]
        noted = [number for address in range(64) for number in (2, address, 1)]
        calls = [put(2000, 0), put(0, WORD + 1), stop(2000), stop(0, 2), hand([1]), run(10001), peek(-1),
                 load(state=7), load_row([1])]
        self.assert_journal(START, load(READING), *calls)
        self.assert_journal(START + noted, load(READING), *sixty_four, stop(64))

    def test_one_behind_another(self):
        calls = [load(READING), put(50, -7), stop(9), hand(list(range(24))), run(2), stop(9, 0), run(1), put(50, 7)]
        done = [1, 50, -7, 2, 9, 1, 3, 2, 2, *range(16), 2, 9, 0, 3, 1, 1, *range(16, 24), 1, 50, 7]
        self.assert_journal(START + done, *calls)

    def test_an_answer_is_not_changed_by_what_is_done_later(self):
        first = answered(load(), journal(), put(0, 1), journal())
        self.assertEqual(first[1], [0] + head())
        self.assertEqual(first[3], [0] + head() + [1, 0, 1])


class FullJournal(DeskTest):
    """Longer than a line of calls may be: the desk refuses all the same."""

    def filled(self, room):
        wanted = 20000 - room
        # Words on the drum bring two numbers each, so that the rest can be filled by threes.
        row = head({1990 + number: 5 for number in range(2 * (wanted - 7) % 3)})
        row += [1, 1999, 3] * ((wanted - len(row)) // 3)
        self.assertEqual(len(row), wanted)
        return play(row)

    def test_put(self):
        self.assertEqual(last(self.filled(3), put(5, 9)), [0])
        self.assert_refused(-7, self.filled(3), put(5, 9), put(5, 9))
        self.assert_refused(-7, self.filled(2), put(5, 9))
        self.assertEqual(last(self.filled(2), put(5, 9), peek(5)), [0, 0])
        self.assertEqual(len(last(self.filled(2), put(5, 9), journal())), 19999)
        self.assert_refused(-1, self.filled(2), put(2000, 9))

    def test_stop(self):
        self.assertEqual(last(self.filled(3), stop(5)), [0, 1])
        self.assert_refused(-7, self.filled(2), stop(5))
        self.assertEqual(last(self.filled(2), stop(5, 0)), [0, 0])
        self.assert_refused(-1, self.filled(2), stop(5, 2))

    def test_stop_taken_away(self):
        self.assert_refused(-7, self.filled(5), stop(5), stop(5, 0))
        self.assertEqual(last(self.filled(5), stop(5), stop(5, 0), stop(5)), [0, 0])

    def test_minus_9_ahead_of_minus_7(self):
        sixty_four = [stop(address) for address in range(64)]
        calls = [self.filled(64 * 3), *sixty_four]
        self.assertEqual(answered(*calls)[1:], [[0, 1]] * 64)
        self.assert_refused(-9, *calls, stop(64))
        self.assert_refused(-7, *calls, stop(0, 0))

    def test_run(self):
        self.assertEqual(last(self.filled(3), run(1)), [0, 0, 1, 0, 0])
        self.assert_refused(-7, self.filled(2), run(1))
        self.assert_refused(-7, self.filled(2), run(0, 0))
        self.assert_refused(-1, self.filled(2), run(0, 0, 65))
        self.assertEqual(last(self.filled(2), run(1), told()), [0, 0, 0, 0, 0, 0, 0])

    def test_run_counts_the_hopper(self):
        self.assertEqual(last(self.filled(19), hand([1] * 16), run(1)), [0, 0, 1, 0, 0])
        self.assert_refused(-7, self.filled(18), hand([1] * 16), run(1))
