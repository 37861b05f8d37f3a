from tests.support import *

READ_AND_PUNCHED = {0: order(RDC, 77, 1), 1: order(PCH, 40, 2), 2: order(STD, 9, 3)}
PLAYED = head({0: order(PCH, 40, 0)}) + [1, 41, -6, 2, 3, 1] + was_run(2) + [1, 5]


def joined(*calls):
    return [number for call in calls for number in call]


LINE = joined(
    load(READ_AND_PUNCHED, d=4), put(50, 6), stop(3), stop(3), hand(list(range(16))), run(9), run(10001),
    load_row([0, 0]), load_row([1]),
)
ALL_CALLS = LINE + joined(
    told(), peek(9), peek(2000), tray(), tray(), journal(), play([4]), play(PLAYED), told(), run(1), tray(), journal(),
)


class Interface(DeskTest):
    def test_one_answer_behind_another_each_with_its_length(self):
        self.assertEqual(answers(LINE), [1, 0, 1, 0, 2, 0, 1, 2, 0, 0, 2, 0, 2, 5, 0, 3, 3, 1, 1, 1, -1, 1, -6, 1, -6])

    def test_the_words_of_tray_and_the_numbers_of_journal_without_a_count(self):
        row = head({0: order(PCH, 40, 0), 41: -6})
        self.assertEqual(answers(joined(load({0: order(PCH, 40, 0), 41: -6}), tray(), run(2), tray(), journal())),
                         [1, 0, 1, 0, 5, 0, 1, 2, 0, 2, 17, 0] + [0, -6, 0, 0, 0, 0, 0, 0] * 2
                         + [15, 0] + row + [3, 2, 0])

    def test_told_peek_and_play_answer_so_many(self):
        self.assertEqual(answers(joined(play([]), play(head(t=9)), told(), peek(0), peek(-1))),
                         [5, 0, 1, 0, 0, 0, 5, 0, 0, 0, 0, 7, 7, 0, 0, 0, 0, 9, 0, 0, 2, 0, 0, 1, -1])

    def test_every_call(self):
        found = split(answers(ALL_CALLS))[9:]
        noted = head(READ_AND_PUNCHED, d=4) + [1, 50, 6, 2, 3, 1] + was_run(3, list(range(8)))
        self.assertEqual(found, [
            [0, 0, 0, 3, 170, 0, 4], [0, 4], [-1], [0, 3, 4, 5, 6, 7, 0, 0, 0], [0], [0] + noted,
            [0, 1, 0, 0, 0], [0, 0, 0, 3, 18], [0, 0, 0, 0, 143, 0, 0], [0, 1, 1, 0, 1],
            [0, 0, -6, 0, 0, 0, 0, 0, 0], [0] + PLAYED[:-2] + [3, 1, 0],
        ])

    def test_a_refusal_does_not_end_the_line(self):
        self.assertEqual(answers(run(1) + load() + put(2000, 0) + hand([])), [1, -3, 1, 0, 1, -1, 2, 0, 0])

    def test_every_call_before_a_load(self):
        calls = [put(0, 1), stop(0), hand([1] * 8), run(1), told(), peek(0), tray(), journal()]
        self.assertEqual(answered(*calls), [[-3]] * 8)
        self.assertEqual(answered(play([0] * 6), *calls)[1:], [[-3]] * 8)

    def test_minus_3_whatever_else_would_be_refused(self):
        calls = [put(2000, 0), stop(2000), hand([1]), hand([1] * 520), run(-1), peek(-1), peek(2000)]
        self.assertEqual(answered(*calls), [[-3]] * 7)

    def test_load_and_play_need_no_machine(self):
        self.assertEqual(answered(load(state=7)), [[-1]])
        self.assertEqual(answered(play([])), [[0, 1, 0, 0, 0]])
        self.assertEqual(answered(play([0] * 7)), [[0, 0, 0, 0, 7]])

    def test_empty_rows(self):
        self.assertEqual(answers([1, 0, 0, 0, 0, 0, 0, 0, 4, 0, 2, 1, 1]), [1, 0, 2, 0, 0, 1, 0])

    def test_what_is_handed_in_is_not_changed(self):
        handed = list(ALL_CALLS)
        answers(handed)
        self.assertEqual(handed, ALL_CALLS)

    def test_the_same_a_second_time(self):
        self.assertEqual(answers(ALL_CALLS), answers(ALL_CALLS))

    def test_nothing_is_kept(self):
        answers(play(PLAYED) + stop(4) + hand([1] * 8))
        self.assertEqual(answers(put(0, 1)), [1, -3])
        self.assertEqual(answers(load() + stop(3) + hand([])), [1, 0, 2, 0, 1, 2, 0, 0])

    def test_a_new_list_each_time(self):
        first = answers(ALL_CALLS)
        kept = list(first)
        answers(ALL_CALLS).append(5)
        self.assertEqual(first, kept)

    def test_plain_whole_numbers(self):
        row = answers(ALL_CALLS)
        self.assertIs(type(row), list)
        self.assertEqual({type(number) for number in row}, {int})

    def test_many_calls(self):
        line = load({0: order(NOP, 0, 0)}) + run(3) * 299
        self.assertEqual(answers(line), [1, 0] + [5, 0, 1, 3, 0, 0] * 299)

    def test_a_long_line(self):
        row = [number for address in range(2000) for number in (address, -WORD)]
        line = load_row(row) * 3 + hand([WORD] * 512)
        self.assertEqual(answers(line), [1, 0] * 3 + [2, 0, 64])

    def test_a_long_journal(self):
        row = head({0: order(NOP, 0, 0)}) + was_run(2) * 4663
        self.assertEqual(answers(play(row) + told() + journal()),
                         [5, 0, 0, 0, 4663, 13998, 7, 0, 0, 0, 0, 373003, 0, 0, 13999, 0] + row)
