from tests.support import *

WORDS = {address: address + 1000 for address in range(80, 120)}
PUNCHING = {0: order(PCH, 90, 0), **WORDS}
CARD = list(range(1090, 1098))


class Tray(DeskTest):
    def test_no_card(self):
        self.assertEqual(last(load(), tray()), [0])
        self.assertEqual(last(load(PUNCHING), run(0), tray()), [0])

    def test_one_card(self):
        self.assertEqual(last(load(PUNCHING), run(1), tray()), [0] + CARD)

    def test_around_the_band(self):
        for at, card in ((112, list(range(1112, 1120))), (113, list(range(1113, 1120)) + [1080]),
                         (119, [1119] + list(range(1080, 1087))), (80, list(range(1080, 1088)))):
            self.assertEqual(last(load({0: order(PCH, at, 7), **WORDS}), run(1), tray()), [0] + card)

    def test_words_of_every_kind(self):
        card = [0, WORD, -WORD, -1, 1, 0, 0, 0]
        words = {40 + place: word for place, word in enumerate(card)}
        self.assertEqual(last(load({0: order(PCH, 40, 0), **words}), run(1), tray()), [0] + card)

    def test_in_the_order_in_which_they_were_punched(self):
        program = {0: order(PCH, 100, 1), 1: order(PCH, 80, 2), 2: order(PCH, 90, 3), **WORDS}
        cards = list(range(1100, 1108)) + list(range(1080, 1088)) + CARD
        self.assertEqual(last(load(program), run(9), tray()), [0] + cards)
        self.assertEqual(last(load(program), run(1), run(1), run(1), tray()), [0] + cards)

    def test_a_card_keeps_what_was_punched(self):
        calls = [load(PUNCHING), run(1), put(90, 5), run(1), put(90, 6), tray()]
        self.assertEqual(last(*calls), [0] + CARD + [5] + CARD[1:])

    def test_sixty_four(self):
        self.assertEqual(last(load(PUNCHING), run(64), tray()), [0] + CARD * 64)
        self.assertEqual(last(load(PUNCHING), run(100), tray()), [0] + CARD * 64)

    def test_empty_behind_it(self):
        self.assertEqual(last(load(PUNCHING), run(3), tray(), tray()), [0])
        self.assertEqual(last(load(PUNCHING), run(3), tray(), run(1), tray()), [0] + CARD)

    def test_a_run_goes_on_where_the_tray_was_full(self):
        calls = [load(PUNCHING), run(70), run(70), tray(), run(70), tray(), run(6), tray()]
        self.assertEqual(answered(*calls)[1:], [
            [0, 5, 64, 0, 64], [0, 5, 0, 0, 0], [0] + CARD * 64, [0, 5, 64, 0, 64], [0] + CARD * 64,
            [0, 1, 6, 0, 6], [0] + CARD * 6])

    def test_the_machine_goes_on_as_if_nothing_had_been_taken(self):
        self.assertEqual(last(load(PUNCHING), run(2), tray(), told()), last(load(PUNCHING), run(2), told()))
        self.assertEqual(last(load(PUNCHING), run(2), tray(), run(1), told()), last(load(PUNCHING), run(3), told()))

    def test_of_a_stopped_machine(self):
        calls = [load({0: order(PCH, 90, 1), **WORDS}), run(9), tray()]
        self.assertEqual(answered(*calls)[1:], [[0, 0, 2, 0, 1], [0] + CARD])

    def test_a_load_empties_it(self):
        self.assertEqual(last(load(PUNCHING), run(3), load(), tray()), [0])

    def test_a_load_that_is_refused_does_not(self):
        self.assertEqual(last(load(PUNCHING), run(1), load(state=7), load_row([1]), tray()), [0] + CARD)

    def test_cards_that_were_handed_in_do_not_lie_there(self):
        program = load({0: order(RDC, 40, 1), 1: order(PCH, 40, 0)})
        self.assertEqual(last(program, hand([1] * 16), run(1), tray()), [0])
        self.assertEqual(last(program, hand([1] * 8 + [2] * 8), run(4), tray()), [0] + [1] * 8 + [2] * 8)

    def test_without_a_machine(self):
        self.assert_refused(-3, tray())
        self.assert_refused(-3, load(over=2), tray())
