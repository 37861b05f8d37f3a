from tests.support import *

LINE = [number for call in (
    load({0: order(RDC, 77, 1), 1: order(PCH, 40, 2), 2: order(STD, 9, 3)}, d=4),
    put(50, 6), stop(3), stop(3), hand(list(range(16))), run(9), run(10001), load_row([0, 0]), load_row([1]),
) for number in call]


class Interface(DeskTest):
    def test_one_answer_behind_another_each_with_its_length(self):
        self.assertEqual(answers(LINE), [1, 0, 1, 0, 2, 0, 1, 2, 0, 0, 2, 0, 2, 5, 0, 3, 3, 1, 1, 1, -1, 1, -6, 1, -6])

    def test_a_refusal_does_not_end_the_line(self):
        self.assertEqual(answers(run(1) + load() + put(2000, 0) + hand([])), [1, -3, 1, 0, 1, -1, 2, 0, 0])

    def test_every_call_before_a_load(self):
        self.assertEqual(answered(put(0, 1), stop(0), hand([1] * 8), run(1)), [[-3]] * 4)

    def test_empty_rows(self):
        self.assertEqual(answers([1, 0, 0, 0, 0, 0, 0, 0, 4, 0, 2, 1, 1]), [1, 0, 2, 0, 0, 1, 0])

    def test_what_is_handed_in_is_not_changed(self):
        handed = list(LINE)
        answers(handed)
        self.assertEqual(handed, LINE)

    def test_the_same_a_second_time(self):
        self.assertEqual(answers(LINE), answers(LINE))

    def test_nothing_is_kept(self):
        answers(load() + stop(3) + hand([1] * 8))
        self.assertEqual(answers(put(0, 1)), [1, -3])
        self.assertEqual(answers(load() + stop(3) + hand([])), [1, 0, 2, 0, 1, 2, 0, 0])

    def test_a_new_list_each_time(self):
        first = answers(LINE)
        kept = list(first)
        answers(LINE).append(5)
        self.assertEqual(first, kept)

    def test_plain_whole_numbers(self):
        row = answers(LINE)
        self.assertIs(type(row), list)
        self.assertEqual({type(number) for number in row}, {int})

    def test_many_calls(self):
        line = load({0: order(NOP, 0, 0)}) + run(3) * 299
        self.assertEqual(answers(line), [1, 0] + [5, 0, 1, 3, 0, 0] * 299)

    def test_a_long_line(self):
        row = [number for address in range(2000) for number in (address, -WORD)]
        line = load_row(row) * 3 + hand([WORD] * 512)
        self.assertEqual(answers(line), [1, 0] * 3 + [2, 0, 64])
