from tests.support import *

NOP_TO_5 = {0: order(NOP, 0, 5)}


class LoadTakes(DeskTest):
    def test_answers_nothing_more(self):
        self.assertEqual(answered(load()), [[0]])

    def test_the_least_and_the_most_of_each(self):
        for edge in (dict(state=0), dict(state=6), dict(over=0), dict(over=1), dict(n=0), dict(n=1999),
                     dict(t=0), dict(t=LAST_TICK), dict(a=LONG), dict(a=-LONG), dict(d=WORD), dict(d=-WORD)):
            self.assertEqual(last(load(**edge)), [0], edge)

    def test_drum_of_no_words_and_of_all(self):
        self.assertEqual(last(load_row([])), [0])
        full = {address: address + 1 for address in range(2000)}
        self.assertEqual(last(load(full)), [0])

    def test_drum_edges(self):
        self.assertEqual(last(load_row([0, 1, 1999, 1])), [0])
        self.assertEqual(last(load_row([0, WORD, 1, -WORD, 2, -1])), [0])


class LoadedMachine(DeskTest):
    def test_tick(self):
        self.assert_tick([load(t=0)], 0)
        self.assert_tick([load(t=12345)], 12345)
        self.assert_tick([load(t=LAST_TICK)], LAST_TICK)

    def test_next_order(self):
        for n in (0, 7, 1999):
            self.assert_next([load(n=n)], n)

    def test_a_and_d(self):
        for a in (0, 1, -1, LONG, -LONG, 12345678901234567890):
            self.assert_a([load(a=a)], 0, a)
        for d in (0, 1, -1, WORD, -WORD):
            self.assert_d([load(d=d)], 0, d)

    def test_over(self):
        self.assert_over([load(over=0)], 0, 0)
        self.assert_over([load(over=1)], 0, 1)

    def test_a_state_that_is_not_0_does_not_run(self):
        self.assertEqual(last(load(NOP_TO_5), run(1)), [0, 1, 1, 0, 0])
        for state in range(1, 7):
            self.assertEqual(last(load(NOP_TO_5, state=state), run(1)), [0, 0, 0, 0, 0])

    def test_drum(self):
        calls = [load({1: 5, 40: -WORD, 1999: WORD})]
        for address, word in ((1, 5), (2, 0), (39, 0), (40, -WORD), (41, 0), (1998, 0), (1999, WORD)):
            self.assert_word(calls, 0, address, word)


class LoadRefuses(DeskTest):
    def test_parts(self):
        for wrong in (dict(state=-1), dict(state=7), dict(over=-1), dict(over=2), dict(n=-1), dict(n=2000),
                      dict(t=-1), dict(t=2 ** 64), dict(a=LONG + 1), dict(a=-LONG - 1),
                      dict(d=WORD + 1), dict(d=-WORD - 1)):
            self.assert_refused(-1, load(**wrong))

    def test_numbers_far_outside(self):
        for name in ("state", "over", "n", "t", "a", "d"):
            self.assert_refused(-1, load(**{name: FAR}))
            self.assert_refused(-1, load(**{name: -FAR}))

    def test_drum_rows(self):
        for row in ([0], [0, 1, 2], [5, 1, 5, 1], [5, 1, 4, 1], [-1, 1], [2000, 1], [3, 1, 2000, 1],
                    [0, WORD + 1], [0, -WORD - 1], [0, 0], [0, 1, 1, 0], [-FAR, 1], [FAR, 1], [0, FAR]):
            self.assert_refused(-6, load_row(row))

    def test_a_row_longer_than_a_drum(self):
        row = [number for address in range(2050) for number in (address, 1)]
        self.assert_refused(-6, load_row(row))

    def test_minus_1_ahead_of_minus_6(self):
        self.assert_refused(-1, load_row([0], state=7))
        self.assert_refused(-1, load_row([0, 0], d=WORD + 1))

    def test_a_refused_first_load_gives_no_machine(self):
        self.assert_refused(-3, load(state=7), run(1))
        self.assert_refused(-3, load_row([0]), run(1))

    def test_the_desk_is_as_it_was(self):
        before = [load(NOP_TO_5, t=40), put(9, 77), stop(5), hand([1] * 16)]
        for refused in (load({0: order(NOP, 0, 6)}, n=2000), load_row([0, order(NOP, 0, 6), 1])):
            calls = before + [refused]
            self.assert_tick(calls, 40)
            self.assert_word(calls, 0, 9, 77)
            self.assertEqual(last(*calls, hand([])), [0, 2])
            self.assertEqual(last(*calls, stop(5)), [0, 0])
            self.assertEqual(last(*calls, run(9)), [0, 3, 1, 0, 0])


class LoadAgain(DeskTest):
    def test_the_machine_is_the_new_one(self):
        calls = [load({0: 5, 9: 77}, over=1, n=3, t=400, a=8, d=9), load({10: 4}, n=2, t=81)]
        self.assert_tick(calls, 81)
        self.assert_next(calls, 2)
        self.assert_a(calls, 2, 0)
        self.assert_d(calls, 2, 0)
        self.assert_over(calls, 2, 0)
        self.assert_word(calls, 2, 9, 0)
        self.assert_word(calls, 2, 10, 4)

    def test_no_stops(self):
        calls = [load(NOP_TO_5)] + [stop(address) for address in range(64)] + [load(NOP_TO_5)]
        self.assertEqual(last(*calls, run(2)), [0, 0, 2, 0, 0])
        self.assertEqual(last(*calls, stop(5, 0)), [0, 0])
        self.assertEqual(last(*calls, stop(1900)), [0, 1])

    def test_empty_hopper(self):
        calls = [load(), hand([1] * 512), load({0: order(RDC, 40, 5)})]
        self.assertEqual(last(*calls, hand([])), [0, 0])
        self.assertEqual(last(*calls, run(1)), [0, 0, 1, 0, 0])

    def test_empty_tray(self):
        punching = load({0: order(PCH, 40, 0)})
        self.assertEqual(last(punching, run(64), run(1)), [0, 5, 0, 0, 0])
        self.assertEqual(last(punching, run(64), punching, run(65)), [0, 5, 64, 0, 64])

    def test_a_stopped_machine_makes_way_for_one_that_runs(self):
        self.assertEqual(last(load(), run(1), load(NOP_TO_5), run(1)), [0, 1, 1, 0, 0])
