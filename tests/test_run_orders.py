"""Each row of the table of orders: what it does, and the tick behind it.

The order lies at 0 and is read at tick 0, so it's taken apart at 3. Its data address is 50, at place 10,
where it isn't said otherwise: with an order that waits for it, it's 11 then.
"""

from tests.support import *


class OrderTest(DeskTest):
    def check(self, code, tick, before, after, word=0, at=50, n=7):
        """before and after: A, D, over. n: where the next order lies then."""
        given = n if n != at else 7
        calls = [load({0: order(code, at, given), 50: word}, a=before[0], d=before[1], over=before[2]), run(1)]
        self.assertEqual(last(*calls), [0, 1, 1, 0, 0])
        self.assert_tick(calls, tick)
        self.assert_next(calls, n)
        self.assert_a(calls, n, after[0])
        self.assert_d(calls, n, after[1])
        self.assert_over(calls, n, after[2])
        return calls


class HaltAndNothing(OrderTest):
    def test_halt(self):
        for word in (0, order(HLT, 9999, 9999), order(HLT, 50, 7)):
            calls = [load({0: word}), run(5)]
            self.assertEqual(last(*calls), [0, 0, 1, 0, 0])
            self.assertEqual(last(*calls, run(5)), [0, 0, 0, 0, 0])

    def test_nothing(self):
        self.check(NOP, 3, (-12, 34, 1), (-12, 34, 1))
        self.check(NOP, 3, (LONG, -5, 0), (LONG, -5, 0), at=9999)


class LoadingOrders(OrderTest):
    def test_lda(self):
        self.check(LDA, 12, (99, 5, 0), (123, 123, 0), 123)
        self.check(LDA, 12, (LONG, 5, 1), (-WORD, -WORD, 1), -WORD)
        self.check(LDA, 12, (99, 5, 0), (0, 0, 0), 0)

    def test_ldn(self):
        self.check(LDN, 12, (99, 5, 0), (-123, 123, 0), 123)
        self.check(LDN, 12, (99, 5, 1), (WORD, -WORD, 1), -WORD)
        self.check(LDN, 12, (99, 5, 0), (0, 0, 0), 0)

    def test_ldd(self):
        self.check(LDD, 11, (99, 5, 0), (99, -123, 0), -123)

    def test_the_word_stays(self):
        for code in (LDA, LDN, ADD, SUB, ADM, SBM, ADU, SBU, LDD, MUL, DIV):
            calls = [load({0: order(code, 50, 7), 50: 123}, a=5, d=9), run(1)]
            self.assert_word(calls, 7, 50, 123)


class Sums(OrderTest):
    def test_add(self):
        self.check(ADD, 13, (100, 5, 0), (123, 23, 0), 23)
        self.check(ADD, 13, (100, 5, 0), (77, -23, 0), -23)
        self.check(ADD, 13, (WORD, 5, 0), (WORD + 1, 1, 0), 1)

    def test_sub(self):
        self.check(SUB, 13, (100, 5, 0), (77, 23, 0), 23)
        self.check(SUB, 13, (100, 5, 1), (123, -23, 1), -23)

    def test_adm(self):
        self.check(ADM, 13, (100, 5, 0), (123, 23, 0), 23)
        self.check(ADM, 13, (100, 5, 0), (123, -23, 0), -23)

    def test_sbm(self):
        self.check(SBM, 13, (100, 5, 0), (77, 23, 0), 23)
        self.check(SBM, 13, (100, 5, 0), (77, -23, 0), -23)

    def test_adu(self):
        self.check(ADU, 13, (7, 5, 0), (230000000007, 23, 0), 23)
        self.check(ADU, 13, (7, 5, 0), (-229999999993, -23, 0), -23)
        self.check(ADU, 13, (WORD, 5, 0), (LONG, WORD, 0), WORD)

    def test_sbu(self):
        self.check(SBU, 13, (7, 5, 0), (-229999999993, 23, 0), 23)
        self.check(SBU, 13, (7, 5, 0), (230000000007, -23, 0), -23)
        self.check(SBU, 13, (-WORD, 5, 0), (-LONG, WORD, 0), WORD)

    def test_the_last_that_fits(self):
        self.check(ADD, 13, (LONG - 1, 5, 0), (LONG, 1, 0), 1)
        self.check(SUB, 13, (1 - LONG, 5, 0), (-LONG, 1, 0), 1)

    def test_what_does_not_fit(self):
        self.check(ADD, 13, (LONG, 5, 0), (0, 1, 1), 1)
        self.check(ADD, 13, (LONG, 5, 0), (4, 5, 1), 5)
        self.check(ADD, 13, (-LONG, 5, 0), (-4, -5, 1), -5)
        self.check(SUB, 13, (-LONG, 5, 0), (0, 1, 1), 1)
        self.check(SUB, 13, (-LONG, 5, 0), (-4, 5, 1), 5)
        self.check(SUB, 13, (LONG, 5, 0), (4, -5, 1), -5)
        self.check(ADM, 13, (LONG, 5, 0), (4, -5, 1), -5)
        self.check(SBM, 13, (-LONG, 5, 0), (-4, -5, 1), -5)
        self.check(ADU, 13, (LONG, 5, 0), (LONG - 10 ** 10, WORD, 1), WORD)
        self.check(SBU, 13, (-10 ** 10, 5, 0), (0, WORD, 1), WORD)
        self.check(SBU, 13, (-10 ** 10 - 3, 5, 0), (-3, WORD, 1), WORD)

    def test_over_stays(self):
        self.check(ADD, 13, (1, 5, 1), (3, 2, 1), 2)


class Products(OrderTest):
    def test_mul(self):
        self.check(MUL, 11 + 4 + 12, (7, 5, 0), (861, 123, 0), 123)
        self.check(MUL, 11 + 4 + 12, (7, 5, 1), (-861, -123, 1), -123)
        self.check(MUL, 11 + 4 + 12, (-7, 5, 0), (861, -123, 0), -123)
        self.check(MUL, 11 + 4, (7, 5, 0), (0, 0, 0), 0)

    def test_mul_takes_the_lower_word_alone(self):
        self.check(MUL, 11 + 4 + 4, (30000000004, 5, 0), (8, 2, 0), 2)
        self.check(MUL, 11 + 4 + 4, (-30000000004, 5, 0), (-8, 2, 0), 2)
        self.check(MUL, 11 + 4 + 4, (-30000000000, 5, 0), (0, 2, 0), 2)

    def test_mul_the_most(self):
        self.check(MUL, 11 + 4 + 180, (LONG, 5, 0), (WORD * WORD, WORD, 0), WORD)
        self.check(MUL, 11 + 4 + 180, (LONG, 5, 0), (-WORD * WORD, -WORD, 0), -WORD)


class Quotients(OrderTest):
    def test_div_toward_0_with_its_remainder(self):
        self.check(DIV, 11 + 6 + 2 * 5, (100, 5, 0), (14, 2, 0), 7)
        self.check(DIV, 11 + 6 + 2 * 5, (-100, 5, 0), (-14, -2, 0), 7)
        self.check(DIV, 11 + 6 + 2 * 5, (100, 5, 1), (-14, 2, 1), -7)
        self.check(DIV, 11 + 6 + 2 * 5, (-100, 5, 0), (14, -2, 0), -7)

    def test_div_of_1_by_1(self):
        self.check(DIV, 19, (1, 5, 0), (1, 0, 0), 1)
        self.check(DIV, 19, (-1, 5, 0), (-1, 0, 0), 1)
        self.check(DIV, 19, (1, 5, 0), (-1, 0, 0), -1)
        self.check(DIV, 19, (-1, 5, 0), (1, 0, 0), -1)

    def test_div_of_less_than_the_divisor(self):
        self.check(DIV, 17, (3, 5, 0), (0, 3, 0), 7)
        self.check(DIV, 17, (-3, 5, 0), (0, -3, 0), 7)
        self.check(DIV, 17, (0, 5, 0), (0, 0, 0), 7)

    def test_div_the_last_that_can_be_done(self):
        self.check(DIV, 17 + 180, (7 * 10 ** 10 - 1, 5, 0), (WORD, 6, 0), 7)
        self.check(DIV, 17 + 180, (1 - 7 * 10 ** 10, 5, 0), (WORD, -6, 0), -7)
        self.check(DIV, 17 + 180, (WORD, 5, 0), (WORD, 0, 0), 1)

    def test_div_of_too_much(self):
        self.check(DIV, 17, (7 * 10 ** 10, 5, 0), (7 * 10 ** 10, 7, 1), 7)
        self.check(DIV, 17, (-7 * 10 ** 10, 5, 0), (-7 * 10 ** 10, 7, 1), 7)
        self.check(DIV, 17, (7 * 10 ** 10, 5, 0), (7 * 10 ** 10, -7, 1), -7)
        self.check(DIV, 17, (LONG, 5, 1), (LONG, 7, 1), 7)

    def test_div_by_0(self):
        self.check(DIV, 17, (5, 6, 0), (5, 0, 1), 0)
        self.check(DIV, 17, (0, 6, 0), (0, 0, 1), 0)


class Stores(OrderTest):
    def stored(self, code, a, d, word):
        calls = self.check(code, 11, (a, d, 1), (a, d, 1), 99)
        self.assert_word(calls, 7, 50, word)
        self.assert_word(calls, 7, 51, 0)

    def test_stl(self):
        self.stored(STL, 12345678901234567890, 5, 1234567890)
        self.stored(STL, -12345678901234567890, 5, -1234567890)
        self.stored(STL, -30000000000, 5, 0)
        self.stored(STL, -1, 5, -1)

    def test_stu(self):
        self.stored(STU, 12345678901234567890, 5, 1234567890)
        self.stored(STU, 98765432101234567890, 5, 9876543210)
        self.stored(STU, -98765432101234567890, 5, -9876543210)
        self.stored(STU, -5, 5, 0)
        self.stored(STU, -WORD - 2, 5, -1)

    def test_std(self):
        self.stored(STD, 7, -WORD, -WORD)
        self.stored(STD, 7, 0, 0)


class Shifts(OrderTest):
    def test_shl(self):
        self.check(SHL, 3 + 2 + 4, (-12, 5, 0), (-120000, 5, 0), at=4)
        self.check(SHL, 3 + 2, (LONG, 5, 0), (LONG, 5, 0), at=0)
        self.check(SHL, 3 + 2 + 19, (9, 5, 1), (9 * 10 ** 19, 5, 1), at=19)
        self.check(SHL, 3 + 2 + 20, (0, 5, 0), (0, 5, 0), at=20)

    def test_shl_what_does_not_fit(self):
        self.check(SHL, 3 + 2 + 20, (1, 5, 0), (0, 5, 1), at=20)
        self.check(SHL, 3 + 2 + 20, (LONG, 5, 0), (0, 5, 1), at=20)
        self.check(SHL, 3 + 2 + 1, (12345678901234567890, 5, 0), (23456789012345678900, 5, 1), at=1)
        self.check(SHL, 3 + 2 + 1, (-12345678901234567890, 5, 0), (-23456789012345678900, 5, 1), at=1)

    def test_shr_toward_0(self):
        self.check(SHR, 3 + 2 + 2, (1999, 5, 0), (19, 5, 0), at=2)
        self.check(SHR, 3 + 2 + 2, (-1999, 5, 1), (-19, 5, 1), at=2)
        self.check(SHR, 3 + 2, (-1999, 5, 0), (-1999, 5, 0), at=0)
        self.check(SHR, 3 + 2 + 20, (-LONG, 5, 0), (0, 5, 0), at=20)
        self.check(SHR, 3 + 2 + 19, (-LONG, 5, 0), (-9, 5, 0), at=19)

    def test_srr_to_the_nearest(self):
        self.check(SRR, 3 + 2 + 2, (1949, 5, 0), (19, 5, 0), at=2)
        self.check(SRR, 3 + 2 + 2, (1950, 5, 0), (20, 5, 0), at=2)
        self.check(SRR, 3 + 2 + 2, (2050, 5, 0), (21, 5, 0), at=2)
        self.check(SRR, 3 + 2 + 2, (-1949, 5, 0), (-19, 5, 0), at=2)
        self.check(SRR, 3 + 2 + 2, (-1950, 5, 1), (-20, 5, 1), at=2)
        self.check(SRR, 3 + 2, (-1999, 5, 0), (-1999, 5, 0), at=0)
        self.check(SRR, 3 + 2 + 20, (-LONG, 5, 0), (-1, 5, 0), at=20)
        self.check(SRR, 3 + 2 + 20, (5 * 10 ** 19, 5, 0), (1, 5, 0), at=20)
        self.check(SRR, 3 + 2 + 20, (5 * 10 ** 19 - 1, 5, 0), (0, 5, 0), at=20)

    def test_sct(self):
        self.check(SCT, 3 + 2 + 19, (1, 5, 0), (10 ** 19, 19, 0), at=0)
        self.check(SCT, 3 + 2 + 17, (-123, 5, 1), (-123 * 10 ** 17, 17, 1), at=21)
        self.check(SCT, 3 + 2, (-LONG, 5, 0), (-LONG, 0, 0), at=9999)
        self.check(SCT, 3 + 2, (10 ** 19, 5, 0), (10 ** 19, 0, 0), at=2000)
        self.check(SCT, 3 + 2 + 1, (10 ** 19 - 1, 5, 0), (10 ** 20 - 10, 1, 0), at=0)
        self.check(SCT, 3 + 2 + 20, (0, 5, 0), (0, 20, 0), at=0)


class Branches(OrderTest):
    def test_bmi(self):
        self.check(BMI, 4, (-1, 5, 1), (-1, 5, 1), n=50)
        self.check(BMI, 4, (0, 5, 0), (0, 5, 0))
        self.check(BMI, 4, (1, -5, 0), (1, -5, 0))

    def test_bnz(self):
        self.check(BNZ, 4, (-1, 5, 1), (-1, 5, 1), n=50)
        self.check(BNZ, 4, (1, 5, 0), (1, 5, 0), n=50)
        self.check(BNZ, 4, (0, 5, 1), (0, 5, 1))

    def test_bov(self):
        self.check(BOV, 4, (9, 5, 1), (9, 5, 0), n=50)
        self.check(BOV, 4, (9, 5, 0), (9, 5, 0))


class LookUp(OrderTest):
    def looked(self, words, at, d, a, over, tick):
        program = dict(words)
        program[0] = order(TLU, at, 7)
        calls = [load(program, a=-77, d=d), run(1)]
        self.assertEqual(last(*calls), [0, 1, 1, 0, 0])
        self.assert_tick(calls, tick)
        self.assert_a(calls, 7, a)
        self.assert_d(calls, 7, d)
        self.assert_over(calls, 7, over)

    def test_the_first_from_d_on(self):
        self.looked({80: 9, 90: 1, 91: 5, 92: 6}, 90, 1, 0, 0, 11 + 0 + 1)
        self.looked({80: 9, 90: 1, 91: 5, 92: 6}, 90, 5, 1, 0, 11 + 1 + 1)
        self.looked({80: 9, 90: 1, 91: 5, 92: 6}, 90, 6, 2, 0, 11 + 2 + 1)

    def test_around_the_band(self):
        self.looked({80: 9, 90: 1, 91: 5, 92: 6}, 90, 7, 30, 0, 11 + 30 + 1)
        self.looked({89: 9, 120: 99, 79: 99}, 90, 9, 39, 0, 11 + 39 + 1)
        self.looked({80: 3}, 119, 2, 1, 0, 40 + 1 + 1)

    def test_words_below_0(self):
        self.looked({90: -3, 91: -2}, 90, -2, 1, 0, 11 + 1 + 1)
        self.looked({90: -WORD}, 90, -WORD, 0, 0, 11 + 0 + 1)

    def test_none(self):
        self.looked({90: 8, 120: 99, 79: 99}, 90, 9, -77, 1, 11 + 39 + 1)

    def test_over_stays_where_one_is_found(self):
        self.check(TLU, 12, (9, 5, 1), (0, 5, 1), 5)


class Cards(OrderTest):
    CARD = [11, -22, 33, 0, WORD, -WORD, 77, 88]

    def test_rdc(self):
        calls = [load({0: order(RDC, 50, 7), 53: 4, 58: 9}, a=-1, d=2, over=1), hand(self.CARD + [5] * 8), run(1)]
        self.assertEqual(last(*calls), [0, 1, 1, 1, 0])
        self.assert_tick(calls, 63)
        self.assert_next(calls, 7)
        self.assert_a(calls, 7, -1)
        self.assert_d(calls, 7, 2)
        self.assert_over(calls, 7, 1)
        for k, word in enumerate(self.CARD):
            self.assert_word(calls, 7, 50 + k, word)
        self.assert_word(calls, 7, 49, 0)
        self.assert_word(calls, 7, 58, 9)

    def test_rdc_around_the_band(self):
        calls = [load({0: order(RDC, 117, 7)}), hand(self.CARD), run(1)]
        for address, word in zip((117, 118, 119, 80, 81, 82, 83, 84), self.CARD):
            self.assert_word(calls, 7, address, word)
        for address in (79, 85, 116, 120):
            self.assert_word(calls, 7, address, 0)

    def test_rdc_over_the_last_band(self):
        calls = [load({0: order(RDC, 1999, 7)}), hand(self.CARD), run(1)]
        for address, word in zip((1999, 1960, 1961, 1966), (11, -22, 33, 88)):
            self.assert_word(calls, 7, address, word)

    def test_pch(self):
        calls = [load({0: order(PCH, 50, 7), 50: 4}, a=-1, d=2, over=1), hand([1] * 8), run(1)]
        self.assertEqual(last(*calls), [0, 1, 1, 0, 1])
        self.assert_tick(calls, 63)
        self.assert_next(calls, 7)
        self.assert_a(calls, 7, -1)
        self.assert_d(calls, 7, 2)
        self.assert_over(calls, 7, 1)
        self.assert_word(calls, 7, 50, 4)
        self.assertEqual(last(*calls, hand([])), [0, 1])


class Ticks(OrderTest):
    def test_an_order_waits_for_its_place(self):
        for n, t, tick in ((0, 0, 3), (1, 0, 4), (39, 0, 42), (0, 1, 43), (40, 1, 43), (1999, 40, 82), (5, 5, 8)):
            self.assert_tick([load({n: order(NOP, 0, 7)}, n=n, t=t), run(1)], tick)

    def test_data_is_waited_for_from_when_it_is_taken_apart(self):
        for at, tick in ((3, 4), (4, 5), (2, 43), (0, 41), (39, 40), (43, 4), (1999, 40), (1962, 43)):
            self.assert_tick([load({0: order(LDD, at, 7)}, t=0), run(1)], tick)

    def test_all_that_wait(self):
        behind = {LDA: 1, LDN: 1, ADD: 2, SUB: 2, ADM: 2, SBM: 2, ADU: 2, SBU: 2, LDD: 0, MUL: 4, DIV: 6,
                  STL: 0, STU: 0, STD: 0, TLU: 1}
        for code in behind:
            self.assert_tick([load({5: order(code, 42, 7)}, n=5), run(1)], 43 + behind[code])

    def test_all_that_do_not(self):
        behind = {NOP: 0, SHL: 3, SHR: 3, SRR: 3, SCT: 21, BMI: 1, BNZ: 1, BOV: 1, RDC: 60, PCH: 60}
        for code in behind:
            calls = [load({5: order(code, 1, 7)}, n=5, a=5), hand([1] * 8), run(1)]
            self.assert_tick(calls, 8 + behind[code])

    def test_the_tick_goes_on_from_order_to_order(self):
        program = {0: order(LDA, 20, 30), 30: order(ADD, 21, 4), 20: 1, 21: 2, 4: order(STL, 22, 0)}
        self.assert_tick([load(program), run(1)], 22)
        self.assert_tick([load(program), run(2)], 64)
        self.assert_tick([load(program), run(3)], 103)
        self.assert_word([load(program), run(3)], 0, 22, 3)


class TheLastTick(OrderTest):
    """2^64 - 1 lies at place 15."""

    def test_up_to_it(self):
        calls = [load({12: order(NOP, 0, 7)}, n=12, t=LAST_TICK - 3), run(1)]
        self.assertEqual(last(*calls), [0, 1, 1, 0, 0])
        self.assert_tick(calls, LAST_TICK)

    def test_past_it(self):
        self.assert_tick([load({13: order(NOP, 0, 7)}, n=13, t=LAST_TICK - 2), run(1)], 0)
        self.assert_tick([load({14: order(NOP, 0, 7)}, n=14, t=LAST_TICK - 1), run(1)], 1)
        self.assert_tick([load({14: order(RDC, 50, 7)}, n=14, t=LAST_TICK - 1), hand([1] * 8), run(1)], 61)

    def test_within_an_order_ticks_are_counted_on(self):
        self.assert_tick([load({20: order(NOP, 0, 7)}, n=20, t=LAST_TICK - 1), run(1)], 7)
        self.assert_tick([load({14: order(LDD, 30, 7)}, n=14, t=LAST_TICK - 1), run(1)], 15)
        self.assert_tick([load({20: order(LDA, 19, 7)}, n=20, t=LAST_TICK - 1), run(1)], 45)

    def test_the_next_order_waits_by_the_new_tick(self):
        program = {14: order(NOP, 0, 5), 5: order(NOP, 0, 7)}
        self.assert_tick([load(program, n=14, t=LAST_TICK - 1), run(2)], 8)

    def test_nothing_is_begun_at_it(self):
        self.assertEqual(last(load({15: order(NOP, 0, 7)}, n=15, t=LAST_TICK), run(5)), [0, 2, 0, 0, 0])
