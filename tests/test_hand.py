from tests.support import *

READING = {0: order(RDC, 40, 0)}


class Hand(DeskTest):
    def test_how_many_lie_in_the_hopper(self):
        self.assertEqual(answered(load(), hand([1] * 8), hand([2] * 16), hand([]))[1:], [[0, 1], [0, 3], [0, 3]])

    def test_no_cards(self):
        self.assertEqual(last(load(), hand([])), [0, 0])

    def test_512_words(self):
        self.assertEqual(last(load(), hand([1] * 512)), [0, 64])

    def test_words_at_their_edges(self):
        self.assertEqual(last(load(), hand([WORD, -WORD, 0, 0, 0, 0, WORD, -WORD])), [0, 1])

    def test_cards_are_read_in_the_order_in_which_they_came(self):
        calls = [load(READING), hand(list(range(1, 17))), hand(list(range(17, 25)))]
        for read in (1, 2, 3):
            done = calls + [run(read)]
            for k in range(8):
                self.assert_word(done, 0, 40 + k, read * 8 - 7 + k)

    def test_a_card_that_was_read_is_gone(self):
        self.assertEqual(last(load(READING), hand([1] * 24), run(2), hand([])), [0, 1])
        self.assertEqual(last(load(READING), hand([1] * 24), run(2), hand([5] * 8)), [0, 2])

    def test_refused_for_their_number(self):
        for count in (1, 7, 9, 511, 513, 520, 600):
            self.assert_refused(-1, load(), hand([1] * count))

    def test_refused_for_what_is_no_word(self):
        for wrong in (WORD + 1, -WORD - 1, FAR, -FAR):
            self.assert_refused(-1, load(), hand([wrong] + [0] * 7))
            self.assert_refused(-1, load(), hand([0] * 15 + [wrong]))

    def test_the_hopper_at_64_and_beyond(self):
        self.assertEqual(answered(load(), hand([1] * 504), hand([1] * 8))[1:], [[0, 63], [0, 64]])
        self.assert_refused(-9, load(), hand([1] * 504), hand([1] * 16))
        self.assert_refused(-9, load(), hand([1] * 512), hand([1] * 8))
        self.assert_refused(-9, load(), hand([1] * 8), hand([1] * 512))
        self.assertEqual(last(load(), hand([1] * 512), hand([])), [0, 64])

    def test_room_again_when_one_was_read(self):
        self.assertEqual(last(load(READING), hand([1] * 512), run(1), hand([1] * 8)), [0, 64])
        self.assert_refused(-9, load(READING), hand([1] * 512), run(1), hand([1] * 16))

    def test_minus_1_ahead_of_minus_9(self):
        self.assert_refused(-1, load(), hand([1] * 512), hand([1] * 9))
        self.assert_refused(-1, load(), hand([1] * 512), hand([FAR] * 8))
        self.assert_refused(-1, load(), hand([1] * 512), hand([1] * 520))

    def test_refused_the_hopper_is_as_it_was(self):
        calls = [load(READING), hand([3] * 8), hand([4] * 9), hand([5] * 7 + [FAR]), hand([6] * 512)]
        self.assertEqual(last(*calls, hand([])), [0, 1])
        self.assert_word(calls + [run(1)], 0, 47, 3)

    def test_without_a_machine(self):
        for words in ([], [1] * 8, [1] * 7, [1] * 513, [FAR] * 8):
            self.assert_refused(-3, hand(words))

    def test_a_stopped_machine_takes_cards(self):
        self.assertEqual(last(load(state=6), hand([1] * 8)), [0, 1])
