from tests.support import *


class Put(DeskTest):
    def test_answers_nothing_more(self):
        self.assertEqual(last(load(), put(3, 4)), [0])

    def test_the_word_becomes_the_number(self):
        for address, word in ((1, 5), (5, 0), (1999, WORD), (1999, -WORD), (40, -1)):
            self.assert_word([load({5: 9, 1999: 3}), put(address, word)], 0, address, word)

    def test_address_0(self):
        self.assert_word([load(n=1), put(0, 17)], 1, 0, 17)

    def test_no_other_word_changes(self):
        calls = [load({4: 40, 6: 60}), put(5, 50)]
        self.assert_word(calls, 0, 4, 40)
        self.assert_word(calls, 0, 6, 60)
        self.assert_word(calls, 0, 7, 0)

    def test_nothing_else_of_the_machine_changes(self):
        calls = [load(over=1, n=8, t=77, a=-123, d=9), put(8, 1), put(20, -5)]
        self.assert_tick(calls, 77)
        self.assert_next(calls, 8)
        self.assert_a(calls, 8, -123)
        self.assert_d(calls, 8, 9)
        self.assert_over(calls, 8, 1)

    def test_an_order_that_was_put_in_is_done(self):
        self.assertEqual(last(load(), put(0, order(NOP, 0, 0)), run(7)), [0, 1, 7, 0, 0])

    def test_a_stopped_machine_takes_words_and_stays_stopped(self):
        calls = [load(), run(1), put(0, order(NOP))]
        self.assertEqual(last(*calls), [0])
        self.assertEqual(last(*calls, run(1)), [0, 0, 0, 0, 0])

    def test_refused(self):
        for address, word in ((-1, 0), (2000, 0), (FAR, 0), (-FAR, 0),
                              (0, WORD + 1), (0, -WORD - 1), (0, FAR), (0, -FAR), (2000, FAR)):
            self.assert_refused(-1, load(), put(address, word))

    def test_refused_the_word_is_as_it_was(self):
        calls = [load({5: 9, 1999: 3}), put(5, WORD + 1), put(-1, 4), put(2000, 4)]
        self.assert_word(calls, 0, 5, 9)
        self.assert_word(calls, 0, 1999, 3)

    def test_without_a_machine(self):
        for address, word in ((0, 0), (-1, 0), (0, FAR)):
            self.assert_refused(-3, put(address, word))
