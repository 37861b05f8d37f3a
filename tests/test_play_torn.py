from tests.support import *

PROGRAM = {0: order(RDC, 40, 1), 1: order(NOP, 0, 0)}
ENTRIES = (
    [1, 9, -WORD],
    [2, 1999, 1],
    [2, 1999, 0],
    was_run(1, [1] * 8),
    was_run(3, [2] * 8),
    was_run(4, [3] * 16),
    was_run(1),
)


class Torn(DeskTest):
    def test_at_every_place(self):
        row = head(PROGRAM)
        for done, entry in enumerate(ENTRIES):
            for kept in range(len(entry)):
                torn = play(row + entry[:kept])
                self.assertEqual(last(torn), [0, 0, 0, done, len(row)], (done, kept))
                self.assertEqual(last(torn, journal()), [0] + row)
                self.assertEqual(last(torn, told()), last(play(row), told()))
                self.assertEqual(last(torn, peek(40)), last(play(row), peek(40)))
                self.assertEqual(last(torn, hand([])), [0, 0])
            row += entry
            self.assertEqual(last(play(row)), [0, 0, 0, done + 1, len(row)])

    def test_a_torn_entry_is_not_done(self):
        start = head(PROGRAM)
        self.assertEqual(last(play(start + [1, 0]), peek(0)), [0, PROGRAM[0]])
        self.assertEqual(last(play(start + [2, 5]), stop(5, 0)), [0, 0])
        self.assertEqual(last(play(start + [3, 1]), told()), [0] * 7)
        self.assertEqual(last(play(start + [3, 1, 1] + [1] * 7), told()), [0] * 7)
        self.assertEqual(last(play(start + [3, 1, 1] + [1] * 7), peek(40)), [0, 0])

    def test_what_is_wrong_in_it_does_not_matter(self):
        start = head(PROGRAM)
        for torn in ([1, 2000], [1, -1], [1, FAR], [2, 2000], [2, -1], [2, -FAR], [3, 0], [3, -1], [3, 10001],
                     [3, 0, 1], [3, 10001, 1], [3, -FAR, 10000], [3, 1, 1] + [FAR] * 7, [3, 1, 2] + [WORD + 1] * 15,
                     [3, 0, 1] + [FAR] * 7, [3, 1, 10000], [3, 10000, 10000] + [-FAR] * 500):
            self.assertEqual(last(play(start + torn)), [0, 0, 0, 0, len(start)], torn[:4])

    def test_what_could_not_be_done_does_not_matter(self):
        start = head(PROGRAM, state=1) + [2, 5, 1]
        for torn in ([2, 5], [2, 6], [3, 5], [3, 5, 1], [3, 5, 1] + [1] * 7):
            self.assertEqual(last(play(start + torn)), [0, 0, 0, 1, len(start)], torn)

    def test_a_machine_that_is_torn_is_a_fault(self):
        row = head(PROGRAM)
        for kept in range(len(row)):
            self.assertEqual(last(play(row[:kept])), [0, 1, 0, 0, 0])

    def test_a_fault_ahead_of_a_torn_end(self):
        start = head(PROGRAM)
        self.assertEqual(last(play(start + [1, 2000, 5, 1, 5])), [0, 3, len(start), 0, 0])
