import unittest

from line import begin, close, drop, get, list_below, make, open_session, put, run, run_from, tick, together, touch
from line import watch


class Begin(unittest.TestCase):
    """Promise 1."""

    def test_life_at_its_edges(self):
        for life, answer in [(0, 0), (1, 0), (999, 0), (1000, -1), (2000, -1)]:
            with self.subTest(life=life):
                self.assertEqual(run(begin(life)), [[answer]])

    def test_a_world_as_at_first(self):
        self.assertEqual(run_from(1, begin(), list_below(), get(1), tick(0), open_session()),
                         [[0], [-2], [0], [1]])

    def test_a_second_time_makes_a_new_world(self):
        self.assertEqual(run_from(6, begin(), open_session(), tick(9), together(make(1, session=1)), watch(0), watch(1),
                                  begin(), get(1), touch(1), list_below(), open_session(), watch(0), watch(1),
                                  together(make(2))),
                         [[0], [-2], [-1], [0], [1], [1], [1], [1]])

    def test_the_time_begins_anew(self):
        # Seen at 0 again: with the old time 50 the session would last at 40.
        self.assertEqual(run_from(3, begin(10), tick(50), begin(10), open_session(), tick(40), touch(1)),
                         [[1], [0], [-1]])

    def test_the_life_is_the_new_one(self):
        self.assertEqual(run_from(1, begin(10), begin(20), open_session(), tick(20), touch(1)),
                         [[0], [1], [0], [0]])

    def test_a_refused_one_changes_nothing(self):
        self.assertEqual(run_from(3, begin(10), open_session(), together(make(1, session=1)),
                                  begin(1000), get(1), tick(10), touch(1), tick(21), touch(1)),
                         [[-1], [0, 1, 1, 1, 1], [1], [0], [2], [-1]])


class Open(unittest.TestCase):
    """Promise 2."""

    def test_numbers_from_1_on(self):
        self.assertEqual(run_from(1, begin(), open_session(), open_session(), open_session()), [[1], [2], [3]])

    def test_a_number_is_not_given_again(self):
        self.assertEqual(run_from(1, begin(), open_session(), close(1), open_session(), touch(1), touch(2)),
                         [[1], [0], [2], [-1], [0]])

    def test_it_is_seen_now(self):
        self.assertEqual(run_from(2, begin(10), tick(7), open_session(), tick(17), touch(1)), [[1], [0], [0]])
        self.assertEqual(run_from(2, begin(10), tick(7), open_session(), tick(18), touch(1)), [[1], [0], [-1]])


class Close(unittest.TestCase):
    """Promise 3."""

    def test_what_does_not_last(self):
        self.assertEqual(run_from(1, begin(), close(0), close(1), open_session(), close(0), close(2), close(99),
                                  close(1), close(1)),
                         [[-1], [-1], [1], [-1], [-1], [-1], [0], [-1]])

    def test_one_that_held_nothing_makes_no_turn(self):
        self.assertEqual(run_from(2, begin(), open_session(), together(make(1)), close(1), together(make(2)), get(2)),
                         [[1], [1], [2], [0, 1, 2, 2, 0]])

    def test_what_it_held_is_gone_in_one_turn(self):
        self.assertEqual(run_from(3, begin(), open_session(), open_session(),
                                  together(make(1), make(1, 5, session=1), make(2, session=1), make(3, session=2)),
                                  close(1), get(1), get(1, 5), get(2), get(3), list_below(), together(make(2))),
                         [[1], [2], [0, 1, 1, 1, 0], [-2], [-2], [0, 1, 1, 1, 2], [2, 1, 3], [3]])

    def test_by_which_it_is_held_stays_when_it_is_set(self):
        self.assertEqual(run_from(3, begin(), open_session(), together(make(1, session=1)), together(put(1, value=4)),
                                  get(1), close(1), get(1)),
                         [[2], [4, 2, 1, 2, 1], [3], [-2]])

    def test_what_was_dropped_before_makes_no_turn(self):
        self.assertEqual(run_from(3, begin(), open_session(), together(make(1, session=1)), together(drop(1)),
                                  close(1)), [[2], [2]])

    def test_it_holds_nothing_any_more(self):
        self.assertEqual(run_from(3, begin(), open_session(), close(1), together(make(1, session=1))), [[-2, 0, 7]])

    def test_what_it_held_makes_room(self):
        held = [make(number, session=1) for number in range(10)]
        free = [make(0, number) for number in range(10)]
        self.assertEqual(run_from(7, begin(), open_session(), together(*held[1:6]), together(*held[6:]),
                                  together(make(0), *free[:5]), together(*free[5:]),
                                  together(make(0, 0, 0), make(0, 0, 1)), close(1), together(make(0, 0, 1))),
                         [[5], [6]])


class Touch(unittest.TestCase):
    """Promise 4."""

    def test_what_does_not_last(self):
        self.assertEqual(run_from(1, begin(), touch(0), touch(1), open_session(), touch(0), touch(2), touch(99),
                                  touch(1), touch(1), close(1), touch(1)),
                         [[-1], [-1], [1], [-1], [-1], [-1], [0], [0], [0], [-1]])

    def test_one_that_is_over_by_time(self):
        self.assertEqual(run_from(1, begin(5), open_session(), tick(6), touch(1), close(1)), [[1], [0], [-1], [-1]])

    def test_it_is_seen_now(self):
        self.assertEqual(run_from(2, begin(10), open_session(), tick(6), touch(1), tick(16), touch(1), tick(27),
                                  touch(1)),
                         [[0], [0], [0], [0], [0], [-1]])

    def test_only_that_one_is(self):
        self.assertEqual(run_from(4, begin(10), open_session(), open_session(), tick(6), touch(2), tick(12), touch(1),
                                  touch(2)),
                         [[0], [0], [-1], [0]])


class Tick(unittest.TestCase):
    """Promise 5."""

    def test_its_edges(self):
        self.assertEqual(run_from(1, begin(), tick(0), tick(9999), tick(10000), tick(20000)), [[0], [0], [-1], [-1]])

    def test_a_refused_one_changes_nothing(self):
        self.assertEqual(run_from(3, begin(10), open_session(), together(make(1, session=1)), tick(10000), get(1),
                                  touch(1), tick(10), touch(1)),
                         [[-1], [0, 1, 1, 1, 1], [0], [1], [0]])

    def test_an_earlier_time_stays_without_effect(self):
        # The session is seen at 20; were the time 5 again, it would be over at 30.
        self.assertEqual(run_from(2, begin(10), tick(20), tick(5), open_session(), tick(30), touch(1), tick(29),
                                  touch(1)),
                         [[0], [1], [0], [0], [0], [0]])

    def test_the_same_time_again(self):
        self.assertEqual(run_from(2, begin(0), open_session(), tick(0), tick(0), touch(1), tick(1), touch(1)),
                         [[0], [0], [0], [0], [-1]])

    def test_a_life_that_just_lasts_and_one_just_over(self):
        for life in [0, 1, 10, 999]:
            with self.subTest(life=life):
                self.assertEqual(run_from(2, begin(life), open_session(), tick(life), touch(1)), [[0], [0]])
                self.assertEqual(run_from(2, begin(life), open_session(), tick(life + 1), touch(1)), [[0], [-1]])

    def test_it_answers_the_last_turn(self):
        self.assertEqual(run_from(4, begin(10), open_session(), together(make(1)), together(make(2, session=1)),
                                  tick(10), tick(11), tick(12), get(2), get(1)),
                         [[2], [3], [3], [-2], [0, 1, 1, 1, 0]])

    def test_several_that_are_over_each_in_a_turn_of_its_own(self):
        self.assertEqual(run_from(5, begin(10), open_session(), open_session(), open_session(),
                                  together(make(1, session=3), make(2, session=1), make(3, session=1)),
                                  tick(11), touch(1), touch(2), touch(3), list_below(), together(make(5))),
                         [[3], [-1], [-1], [-1], [0], [4]])

    def test_no_turn_for_those_that_held_nothing(self):
        self.assertEqual(run_from(3, begin(10), open_session(), open_session(), tick(11), touch(1), touch(2)),
                         [[0], [-1], [-1]])

    def test_only_those_whose_life_is_over(self):
        self.assertEqual(run_from(6, begin(10), open_session(), tick(3), open_session(), tick(6), open_session(),
                                  together(make(1, session=1), make(2, session=2), make(3, session=3)),
                                  tick(14), list_below(), touch(1), touch(2), touch(3)),
                         [[1], [3], [1, 3], [-1], [-1], [0]])


if __name__ == "__main__":
    unittest.main()
