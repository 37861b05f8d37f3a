from tests.support import *

SIXTY_FOUR = [stop(address) for address in range(100, 164)]


class Stop(DeskTest):
    def test_set_set_again_taken_away_taken_away_again(self):
        for address in (0, 7, 1999):
            calls = [load(), stop(address, 1), stop(address, 1), stop(address, 0), stop(address, 0), stop(address, 1)]
            self.assertEqual(answered(*calls)[1:], [[0, 1], [0, 0], [0, 1], [0, 0], [0, 1]])

    def test_taken_away_before_any_was_set(self):
        self.assertEqual(last(load(), stop(7, 0)), [0, 0])

    def test_each_address_has_its_own(self):
        self.assertEqual(answered(load(), stop(7), stop(8), stop(7, 0), stop(8), stop(9, 0))[1:],
                         [[0, 1], [0, 1], [0, 1], [0, 0], [0, 0]])

    def test_a_run_ends_there_only_while_it_is_set(self):
        program = load({0: order(NOP, 0, 5), 5: order(NOP, 0, 0)})
        self.assertEqual(last(program, stop(5), run(9)), [0, 3, 1, 0, 0])
        self.assertEqual(last(program, stop(5), stop(5, 0), run(9)), [0, 1, 9, 0, 0])

    def test_sixty_four(self):
        self.assertEqual(answered(load(), *SIXTY_FOUR)[1:], [[0, 1]] * 64)

    def test_the_sixty_fifth(self):
        self.assert_refused(-9, load(), *SIXTY_FOUR, stop(0))
        self.assert_refused(-9, load(), *SIXTY_FOUR, stop(164))

    def test_the_sixty_fifth_is_not_there(self):
        program = load({0: order(NOP, 0, 5), 5: order(NOP, 0, 0)})
        self.assertEqual(last(program, *SIXTY_FOUR, stop(5), stop(5, 0)), [0, 0])
        self.assertEqual(last(program, *SIXTY_FOUR, stop(5), run(9)), [0, 1, 9, 0, 0])

    def test_at_sixty_four_what_was_so_is_no_refusal(self):
        self.assertEqual(last(load(), *SIXTY_FOUR, stop(100)), [0, 0])
        self.assertEqual(last(load(), *SIXTY_FOUR, stop(0, 0)), [0, 0])
        self.assertEqual(last(load(), *SIXTY_FOUR, stop(163, 0)), [0, 1])

    def test_one_taken_away_makes_room(self):
        self.assertEqual(answered(load(), *SIXTY_FOUR, stop(100, 0), stop(5), stop(6))[-2:], [[0, 1], [-9]])

    def test_refused(self):
        for address, on in ((-1, 1), (2000, 1), (-1, 0), (2000, 0), (FAR, 1), (-FAR, 0),
                            (0, -1), (0, 2), (0, FAR), (0, -FAR), (2000, 2)):
            self.assert_refused(-1, load(), stop(address, on))

    def test_minus_1_ahead_of_minus_9(self):
        self.assert_refused(-1, load(), *SIXTY_FOUR, stop(2000))
        self.assert_refused(-1, load(), *SIXTY_FOUR, stop(0, 2))

    def test_without_a_machine(self):
        for address, on in ((0, 1), (0, 0), (2000, 1), (0, 2)):
            self.assert_refused(-3, stop(address, on))

    def test_a_stopped_machine_takes_stops(self):
        self.assertEqual(last(load(state=3), stop(4)), [0, 1])
