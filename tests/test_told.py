from tests.support import *


class Told(DeskTest):
    def test_what_was_loaded(self):
        self.assertEqual(last(load({3: 7}, 0, 1, 2, 3, 4, -5), told()), [0, 0, 1, 2, 3, 4, -5])

    def test_each_state_as_it_was_loaded(self):
        for state in range(7):
            self.assertEqual(last(load(state=state), told()), [0, state, 0, 0, 0, 0, 0])

    def test_both_ends_of_each_part(self):
        for parts in ((0, 0, 0, 0, -LONG, -WORD), (6, 1, 1999, LAST_TICK, LONG, WORD)):
            self.assertEqual(last(load({}, *parts), told()), [0, *parts])

    def test_behind_a_run(self):
        program = {0: order(LDN, 50, 41), 41: order(BOV, 7, 9), 50: 8}
        self.assertEqual(last(load(program, over=1), run(1), told()), [0, 0, 1, 41, 12, -8, 8])
        self.assertEqual(last(load(program, over=1), run(2), told()), [0, 0, 0, 7, 45, -8, 8])

    def test_a_and_d_at_their_ends_behind_a_run(self):
        program = {0: order(ADU, 50, 1), 1: order(ADD, 50, 2), 50: WORD}
        self.assertEqual(last(load(program), run(2), told())[4:], [66 - 13, LONG, WORD])
        program[50] = -WORD
        self.assertEqual(last(load(program), run(2), told())[5:], [-LONG, -WORD])

    def test_over_becomes_0_and_1_and_nothing_else(self):
        calls = [load({0: order(BOV, 5, 7), 5: order(DIV, 50, 8)}, over=1)]
        self.assertEqual(last(*calls, run(1), told()), [0, 0, 0, 5, 4, 0, 0])
        self.assertEqual(last(*calls, run(2), told()), [0, 0, 1, 8, 17, 0, 0])

    def test_the_last_tick_and_past_it(self):
        self.assertEqual(last(load(n=13, t=LAST_TICK - 2), run(1), told()), [0, 1, 0, 13, 0, 0, 0])
        self.assertEqual(last(load(n=12, t=LAST_TICK - 3), run(1), told()), [0, 1, 0, 12, LAST_TICK, 0, 0])
        self.assertEqual(last(load(n=14, t=LAST_TICK - 1), run(1), told()), [0, 1, 0, 14, 1, 0, 0])
        self.assertEqual(last(load({14: order(PCH, 9, 3)}, n=14, t=LAST_TICK - 1), run(1), told()),
                         [0, 0, 0, 3, 61, 0, 0])

    def test_asking_changes_nothing(self):
        calls = [load({0: order(NOP, 0, 5), 7: 9}, d=4), run(1), told(), told(), peek(7), told()]
        self.assertEqual(answered(*calls)[2:], [[0, 0, 0, 5, 3, 0, 4]] * 2 + [[0, 9], [0, 0, 0, 5, 3, 0, 4]])

    def test_put_stop_hand_and_a_refusal_leave_it(self):
        calls = [load({}, 0, 1, 2, 3, 4, 5), put(2, 6), stop(2), hand([1] * 8), load(state=7), run(10001), told()]
        self.assertEqual(last(*calls), [0, 0, 1, 2, 3, 4, 5])

    def test_without_a_machine(self):
        self.assert_refused(-3, told())
        self.assert_refused(-3, load(state=7), told())
        self.assert_refused(-3, load_row([1]), told())


class States(DeskTest):
    """Each fault and the halt, told: nothing but state and T has changed."""

    def assert_state(self, word, state, cards=0):
        calls = [load({47: word, 50: 99}, 0, 1, 47, 10, -8, 9), hand([1] * 8 * cards), run(9)]
        self.assertEqual(last(*calls), [0, 0, 1, 0, 0], word)
        self.assertEqual(last(*calls, told()), [0, state, 1, 47, 50, -8, 9], word)
        self.assertEqual(last(*calls, peek(47)), [0, word])
        self.assertEqual(last(*calls, peek(50)), [0, 99])
        self.assertEqual(last(*calls, hand([])), [0, cards])
        self.assertEqual(last(*calls, tray()), [0])
        self.assertEqual(last(*calls, run(9), told()), [0, state, 1, 47, 50, -8, 9], word)

    def test_1_halt(self):
        for word in (0, order(HLT, 2000, 0), order(HLT, 0, 2000), order(HLT, 9999, 9999)):
            self.assert_state(word, 1)

    def test_2_below_0(self):
        for word in (-1, -order(99, 9999, 9999), -order(NOP)):
            self.assert_state(word, 2)

    def test_3_no_such_code(self):
        for code in (2, 9, 19, 22, 29, 33, 39, 44, 49, 53, 59, 61, 69, 72, 99):
            self.assert_state(order(code), 3)
            self.assert_state(order(code, 9999, 9999), 3)

    def test_4_addresses(self):
        for word in (order(NOP, 0, 2000), order(LDA, 50, 2000), order(LDA, 2000, 7), order(BMI, 2000, 7),
                     order(SHL, 5, 2000), order(SCT, 5, 2000), order(PCH, 2000, 7)):
            self.assert_state(word, 4)

    def test_5_shifts(self):
        for code in (SHL, SHR, SRR):
            self.assert_state(order(code, 21, 7), 5)
            self.assert_state(order(code, 2000, 7), 5)
            self.assert_state(order(code, 21, 2000), 4)

    def test_6_no_card(self):
        self.assert_state(order(RDC, 50, 7), 6)
        self.assert_state(order(RDC, 2000, 7), 4)
        self.assert_state(order(RDC, 50, 2000), 4)
        self.assert_state(order(RDC, 2000, 7), 4, cards=2)

    def test_0_where_the_next_order_is_a_halt(self):
        self.assertEqual(last(load({0: order(NOP, 0, 5)}), run(1), told()), [0, 0, 0, 5, 3, 0, 0])


class Peek(DeskTest):
    def test_what_was_loaded(self):
        words = {0: 5, 39: -WORD, 40: WORD, 1999: -6}
        for address, word in words.items():
            self.assertEqual(last(load(words), peek(address)), [0, word])
        for address in (1, 38, 41, 1998):
            self.assertEqual(last(load(words), peek(address)), [0, 0])

    def test_what_was_put(self):
        calls = [load({9: 5}), put(9, -WORD), peek(9), put(9, 0), peek(9), put(1999, WORD), peek(1999), peek(0)]
        self.assertEqual(answered(*calls)[1:], [[0], [0, -WORD], [0], [0, 0], [0], [0, WORD], [0, 0]])

    def test_what_a_run_stored(self):
        calls = [load({0: order(STU, 1999, 1), 1: order(STL, 0, 2)}, a=-12 * 10 ** 10 - 34), run(2)]
        self.assertEqual(last(*calls, peek(1999)), [0, -12])
        self.assertEqual(last(*calls, peek(0)), [0, -34])

    def test_what_was_read_from_a_card(self):
        calls = [load({0: order(RDC, 79, 1)}), hand([1, 2, 3, 4, 5, 6, 7, -8]), run(1)]
        self.assertEqual([last(*calls, peek(at))[1] for at in (79, 40, 41, 46, 47, 80)], [1, 2, 3, -8, 0, 0])

    def test_edges(self):
        for address in (0, 1999):
            self.assertEqual(last(load(), peek(address)), [0, 0])
        for address in (-1, 2000, FAR, -FAR):
            self.assert_refused(-1, load(), peek(address))

    def test_without_a_machine(self):
        for address in (0, 1999, -1, 2000, FAR):
            self.assert_refused(-3, peek(address))
