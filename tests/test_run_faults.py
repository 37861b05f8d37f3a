"""Faults as a run shows them: the order is begun, and the machine is stopped then."""

from tests.support import *

KNOWN = (0, 1, 10, 11, 12, 13, 14, 15, 16, 17, 18, 20, 21, 30, 31, 32, 40, 41, 42, 43, 50, 51, 52, 60, 70, 71)
WITHOUT_DATA = (HLT, NOP, SHL, SHR, SRR, SCT)


class Faults(DeskTest):
    def assert_stops(self, word, cards=1):
        calls = [load({0: word}), hand([1] * 8 * cards), run(9)]
        self.assertEqual(last(*calls), [0, 0, 1, 0, 0], word)
        self.assertEqual(last(*calls, run(9)), [0, 0, 0, 0, 0], word)
        self.assertEqual(last(*calls, hand([])), [0, cards], word)

    def assert_goes_on(self, word):
        self.assertEqual(last(load({0: word}), hand([1] * 8), run(1))[:3], [0, 1, 1], word)

    def test_a_word_below_0(self):
        for word in (-1, -WORD, -order(NOP, 0, 0), -order(PCH, 50, 7)):
            self.assert_stops(word)

    def test_codes(self):
        for code in range(100):
            if code in KNOWN and code != HLT:
                self.assert_goes_on(order(code, 5, 7))
            else:
                self.assert_stops(order(code, 5, 7))

    def test_the_next_address(self):
        for code in KNOWN[1:]:
            self.assert_goes_on(order(code, 5, 1999))
            self.assert_stops(order(code, 5, 2000))
            self.assert_stops(order(code, 5, 9999))

    def test_the_data_address(self):
        for code in KNOWN:
            if code not in WITHOUT_DATA:
                self.assert_goes_on(order(code, 1999, 7))
                self.assert_stops(order(code, 2000, 7))
                self.assert_stops(order(code, 9999, 7))

    def test_a_branch_that_is_not_taken_is_at_fault_too(self):
        for code in (BMI, BNZ, BOV):
            self.assert_stops(order(code, 2000, 7))

    def test_orders_without_data_take_any_number_there(self):
        self.assert_goes_on(order(NOP, 9999, 7))
        self.assert_goes_on(order(SCT, 9999, 7))

    def test_shifts(self):
        for code in (SHL, SHR, SRR):
            self.assert_goes_on(order(code, 20, 7))
            for at in (21, 1999, 2000, 9999):
                self.assert_stops(order(code, at, 7))
        self.assert_goes_on(order(SCT, 21, 7))

    def test_no_card(self):
        self.assert_stops(order(RDC, 50, 7), cards=0)

    def test_an_order_70_at_fault_leaves_its_card(self):
        self.assert_stops(order(RDC, 2000, 7), cards=3)
        self.assert_stops(order(RDC, 50, 2000), cards=3)

    def test_an_order_71_at_fault_punches_nothing(self):
        self.assert_stops(order(PCH, 2000, 7))
        self.assert_stops(order(PCH, 50, 2000))
