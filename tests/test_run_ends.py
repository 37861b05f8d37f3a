from tests.support import *

LOOP = {0: order(NOP, 0, 5), 5: order(NOP, 0, 0)}
PUNCHING = {0: order(PCH, 40, 0)}
READING = {0: order(RDC, 40, 0)}


class RunRefuses(DeskTest):
    WRONG = ((-1, 0, 0), (10001, 0, 0), (FAR, 0, 0), (-FAR, 0, 0), (0, -1, 0), (0, 2 ** 64, 0), (0, FAR, 0),
             (0, 0, -1), (0, 0, 65), (0, 0, FAR), (0, 0, -FAR))

    def test_refused(self):
        for wrong in self.WRONG:
            self.assert_refused(-1, load(LOOP), run(*wrong))

    def test_refused_nothing_was_run(self):
        calls = [load(LOOP), run(10001), run(5, 2 ** 64), run(5, 80, 65)]
        self.assert_tick(calls, 0)
        self.assert_next(calls, 0)

    def test_edges(self):
        for right in ((0, 0, 0), (0, LAST_TICK, 64)):
            self.assertEqual(last(load(LOOP), run(*right)), [0, 1, 0, 0, 0])
        self.assertEqual(last(load(LOOP), run(10000)), [0, 1, 10000, 0, 0])

    def test_a_stopped_machine_refuses_likewise(self):
        self.assert_refused(-1, load(state=1), run(10001))

    def test_without_a_machine(self):
        for orders, until, pause in self.WRONG + ((1, 1, 0),):
            self.assert_refused(-3, run(orders, until, pause))


class RunEnds(DeskTest):
    def test_0_stopped(self):
        self.assertEqual(last(load({0: order(NOP, 0, 9)}), run(5)), [0, 0, 2, 0, 0])
        self.assertEqual(last(load(), run(5)), [0, 0, 1, 0, 0])
        self.assertEqual(last(load(), run(5), run(5)), [0, 0, 0, 0, 0])
        self.assertEqual(last(load({0: -1}), run(5)), [0, 0, 1, 0, 0])

    def test_1_orders_begun(self):
        self.assertEqual(last(load(LOOP), run(0)), [0, 1, 0, 0, 0])
        self.assertEqual(last(load(LOOP), run(1)), [0, 1, 1, 0, 0])
        self.assertEqual(last(load(LOOP), run(7)), [0, 1, 7, 0, 0])
        self.assertEqual(last(load(LOOP), run(7), run(3)), [0, 1, 3, 0, 0])

    def test_2_tick(self):
        self.assertEqual(last(load(LOOP), run(9, 0)), [0, 2, 0, 0, 0])
        self.assertEqual(last(load(LOOP), run(9, 1)), [0, 2, 1, 0, 0])
        self.assertEqual(last(load(LOOP), run(9, 3)), [0, 2, 1, 0, 0])
        self.assertEqual(last(load(LOOP), run(9, 4)), [0, 2, 2, 0, 0])
        self.assertEqual(last(load(LOOP), run(9, 8)), [0, 2, 2, 0, 0])
        self.assertEqual(last(load(LOOP), run(9, 9)), [0, 2, 3, 0, 0])
        self.assertEqual(last(load(LOOP, t=100), run(9, 100)), [0, 2, 0, 0, 0])
        self.assertEqual(last(load(LOOP, t=100), run(9, 99)), [0, 2, 0, 0, 0])

    def test_3_stop(self):
        self.assertEqual(last(load(LOOP), stop(5), run(9)), [0, 3, 1, 0, 0])
        self.assertEqual(last(load(LOOP), stop(5), run(9), run(9)), [0, 3, 2, 0, 0])
        self.assertEqual(last(load(LOOP), stop(0), run(9)), [0, 3, 2, 0, 0])
        self.assertEqual(last(load(LOOP), stop(0), stop(5), run(9)), [0, 3, 1, 0, 0])
        self.assertEqual(last(load(LOOP), stop(6), run(9)), [0, 1, 9, 0, 0])

    def test_3_at_the_first_order_no_stop_holds_it_up(self):
        self.assertEqual(last(load({0: order(NOP, 0, 0)}), stop(0), run(9)), [0, 3, 1, 0, 0])

    def test_4_pause(self):
        self.assertEqual(last(load(PUNCHING), run(9, LAST_TICK, 1)), [0, 4, 1, 0, 1])
        self.assertEqual(last(load(PUNCHING), run(9, LAST_TICK, 3)), [0, 4, 3, 0, 3])
        self.assertEqual(last(load(PUNCHING), run(9, LAST_TICK, 10)), [0, 1, 9, 0, 9])
        self.assertEqual(last(load(PUNCHING), run(9, LAST_TICK, 0)), [0, 1, 9, 0, 9])
        self.assertEqual(last(load(PUNCHING), run(100, LAST_TICK, 64)), [0, 4, 64, 0, 64])

    def test_4_counts_the_cards_of_this_run_alone(self):
        calls = [load(PUNCHING), run(9, LAST_TICK, 1), run(9, LAST_TICK, 2)]
        self.assertEqual(last(*calls), [0, 4, 2, 0, 2])

    def test_4_other_orders_between(self):
        program = load({0: order(PCH, 40, 5), 5: order(NOP, 0, 0)})
        self.assertEqual(last(program, run(9, LAST_TICK, 2)), [0, 4, 3, 0, 2])

    def test_5_full_tray(self):
        self.assertEqual(last(load(PUNCHING), run(64)), [0, 1, 64, 0, 64])
        self.assertEqual(last(load(PUNCHING), run(65)), [0, 5, 64, 0, 64])
        calls = [load(PUNCHING), run(64), run(1)]
        self.assertEqual(last(*calls), [0, 5, 0, 0, 0])
        self.assertEqual(last(*calls, run(1)), [0, 5, 0, 0, 0])
        self.assert_tick(calls, 64 * 80 - 17)
        self.assert_next(calls, 0)

    def test_5_other_orders_go_on(self):
        program = load({0: order(PCH, 40, 0), 9: order(NOP, 0, 10), 10: order(PCH, 40, 0)})
        calls = [program, run(64), put(0, order(NOP, 0, 9)), run(9)]
        self.assertEqual(last(*calls), [0, 5, 2, 0, 0])

    def test_5_reading_goes_on(self):
        calls = [load(PUNCHING), hand([1] * 8), run(64), put(0, order(RDC, 40, 0)), run(1)]
        self.assertEqual(last(*calls), [0, 1, 1, 1, 0])


class OrderOfEnds(DeskTest):
    def test_0_ahead_of_1_2_3(self):
        self.assertEqual(last(load(state=2), run(0)), [0, 0, 0, 0, 0])
        self.assertEqual(last(load(LOOP, state=6, t=9), run(9, 0)), [0, 0, 0, 0, 0])
        self.assertEqual(last(load(), run(1, 1)), [0, 0, 1, 0, 0])
        self.assertEqual(last(load(), stop(0), run(9)), [0, 0, 1, 0, 0])

    def test_0_ahead_of_5(self):
        calls = [load(PUNCHING), run(64), put(0, -1), run(1), put(0, order(PCH, 40, 0)), run(1)]
        self.assertEqual(last(*calls), [0, 0, 0, 0, 0])

    def test_1_ahead_of_2_3_5(self):
        self.assertEqual(last(load(LOOP), run(0, 0)), [0, 1, 0, 0, 0])
        self.assertEqual(last(load(LOOP), run(1, 3)), [0, 1, 1, 0, 0])
        self.assertEqual(last(load(LOOP), stop(5), run(1)), [0, 1, 1, 0, 0])
        self.assertEqual(last(load(PUNCHING), run(64), run(0)), [0, 1, 0, 0, 0])

    def test_2_ahead_of_3_and_5(self):
        self.assertEqual(last(load(LOOP), stop(5), run(9, 3)), [0, 2, 1, 0, 0])
        self.assertEqual(last(load(PUNCHING), run(64), run(9, 0)), [0, 2, 0, 0, 0])

    def test_3_ahead_of_5(self):
        calls = [load(PUNCHING), run(63), stop(0), run(9)]
        self.assertEqual(last(*calls), [0, 3, 1, 0, 1])

    def test_a_stop_where_the_run_begins_is_not_asked_ahead_of_5(self):
        self.assertEqual(last(load(PUNCHING), run(64), stop(0), run(9)), [0, 5, 0, 0, 0])

    def test_4_ahead_of_what_is_asked_before_the_next_order(self):
        self.assertEqual(last(load(PUNCHING), run(1, LAST_TICK, 1)), [0, 4, 1, 0, 1])
        self.assertEqual(last(load(PUNCHING), run(9, 63, 1)), [0, 4, 1, 0, 1])
        self.assertEqual(last(load(PUNCHING), stop(0), run(9, LAST_TICK, 1)), [0, 4, 1, 0, 1])
        self.assertEqual(last(load(PUNCHING), run(63), run(9, LAST_TICK, 1)), [0, 4, 1, 0, 1])

    def test_an_order_71_at_fault_is_begun_though_the_tray_is_full(self):
        for wrong in (order(PCH, 2000, 0), order(PCH, 40, 2000), -order(PCH, 40, 0)):
            calls = [load(PUNCHING), run(64), put(0, wrong), run(9)]
            self.assertEqual(last(*calls), [0, 0, 1, 0, 0])


class RunCounts(DeskTest):
    def test_cards_read(self):
        self.assertEqual(last(load(READING), hand([1] * 40), run(3)), [0, 1, 3, 3, 0])
        self.assertEqual(last(load(READING), hand([1] * 40), run(3), run(1)), [0, 1, 1, 1, 0])

    def test_till_the_hopper_is_empty(self):
        calls = [load(READING), hand([1] * 16), run(9)]
        self.assertEqual(last(*calls), [0, 0, 3, 2, 0])
        self.assertEqual(last(*calls, hand([1] * 8), run(9)), [0, 0, 0, 0, 0])

    def test_read_and_punched(self):
        program = load({0: order(RDC, 40, 1), 1: order(PCH, 40, 0)})
        self.assertEqual(last(program, hand([1] * 24), run(9)), [0, 0, 7, 3, 3])
        self.assertEqual(last(program, hand([1] * 24), run(9, LAST_TICK, 2)), [0, 4, 4, 2, 2])

    def test_a_run_however_it_is_cut(self):
        program = {0: order(LDA, 60, 1), 1: order(ADD, 61, 2), 2: order(STL, 60, 3), 3: order(MUL, 61, 0), 61: 37}
        whole = [load(program), run(12)]
        cut = [load(program), run(5), run(0), run(3), run(9, 0), run(4)]
        for calls in (whole, cut):
            self.assert_word(calls, 0, 60, 111)
            self.assert_tick(calls, 566)
            self.assert_a(calls, 0, 4107)
