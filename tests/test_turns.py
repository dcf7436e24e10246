"""Promises 2 to 6 and 11, as house and log let them be seen: sessions, turns, their events, the base."""

import unittest

from line import (begin, check, close, compact, drop, house, log, make, open_session, put, run, run_from, tick,
                  together, touch, watch)
from told import all_after, house_after, log_after

THREE_TURNS = [begin(), together(make(1, value=10)), together(make(2, value=20), put(1, value=11)), together(drop(2))]


class Events(unittest.TestCase):
    def test_in_the_order_of_the_orders(self):
        calls = [begin(), together(make(5, value=50), make(2, value=20), put(5, value=51), check(5, version=2)),
                 together(check(9)), together(drop(5, value=7), make(5, value=52))]
        self.assertEqual(log_after(1, *calls), [(1, 50, (5,)), (1, 20, (2,)), (2, 51, (5,))])
        self.assertEqual(log_after(2, *calls), [(0, 0, (5,)), (1, 52, (5,))])
        self.assertEqual(run(*calls, log(3))[-1], [-1])

    def test_none_when_refused(self):
        for refused in [together(make(1), put(9)), together(), together(make(1), make(2, value=100)), close(1),
                        tick(10000), compact(1), compact(200)]:
            with self.subTest(refused=refused):
                self.assertEqual(run_from(2, begin(), refused, house(), log(1)), [[0] * 7, [-1]])

    def test_what_a_session_held_goes_in_order_of_paths(self):
        held = [begin(), open_session(), together(make(9, session=1), make(3), make(3, 9, session=1),
                                                  make(4, session=1), make(3, 1), make(3, 1, 5, session=1))]
        for end in [close(1), tick(11)]:
            with self.subTest(end=end):
                self.assertEqual(log_after(2, *held, end),
                                 [(0, 0, (3, 1, 5)), (0, 0, (3, 9)), (0, 0, (4,)), (0, 0, (9,))])

    def test_sessions_go_in_their_order_each_in_a_turn(self):
        # Seen again, session 1 is still ahead of the others.
        calls = [begin(), *[open_session()] * 4,
                 together(make(1, session=4), make(2, session=3), make(3, session=1), make(0, session=3)),
                 touch(1), tick(11)]
        self.assertEqual([log_after(turn, *calls) for turn in [2, 3, 4]],
                         [[(0, 0, (3,))], [(0, 0, (0,)), (0, 0, (2,))], [(0, 0, (1,))]])
        self.assertEqual(house_after(*calls)[1], 4)


class House(unittest.TestCase):
    """Promise 17."""

    def test_at_first(self):
        self.assertEqual(run(begin(), house())[-1], [0, 0, 0, 0, 0, 0, 0])

    def test_each_number_in_its_place(self):
        self.assertEqual(run(begin(50), open_session(), tick(7), open_session(), tick(9), open_session(), close(1),
                             tick(11), touch(2), together(make(1), make(2), make(3, session=3), make(1, 1)),
                             together(drop(2)), compact(1), house())[-1],
                         [11, 2, 1, 3, 3, 2, 2, 11, 3, 9, 0])

    def test_sessions_that_are_over_are_not_among_those_that_last(self):
        calls = [begin(10), open_session(), open_session(), tick(5), open_session(), close(2)]
        self.assertEqual(house_after(*calls)[4:6], (3, [(1, 0), (3, 5)]))
        self.assertEqual(house_after(*calls, tick(11))[4:6], (3, [(3, 5)]))
        self.assertEqual(house_after(*calls, tick(16))[4:6], (3, []))
        self.assertEqual(house_after(*calls, tick(16), open_session())[4:6], (4, [(4, 16)]))

    def test_sessions_stay_in_their_order_when_they_are_seen(self):
        self.assertEqual(house_after(begin(), *[open_session()] * 3, tick(4), touch(2), touch(1))[5],
                         [(1, 4), (2, 4), (3, 0)])

    def test_the_time_goes_on_alone(self):
        for ticks, time in [([0], 0), ([8], 8), ([8, 3], 8), ([8, 8], 8), ([8, 9999], 9999), ([8, 10000], 8)]:
            with self.subTest(ticks=ticks):
                self.assertEqual(house_after(begin(), *[tick(each) for each in ticks])[0], time)

    def test_how_many_nodes(self):
        calls = [begin(), open_session(), together(make(1), make(1, 1), make(1, 1, 1), make(2, session=1), put(1))]
        self.assertEqual(house_after(*calls)[3], 4)
        self.assertEqual(house_after(*calls, together(drop(1, 1, 1)))[3], 3)
        self.assertEqual(house_after(*calls, close(1))[3], 3)
        self.assertEqual(house_after(*calls, together(make(3), drop(1)))[3], 4)

    def test_it_changes_nothing(self):
        calls = [begin(), open_session(), together(make(1, session=1)), watch(0)]
        self.assertEqual(run(*calls, house(), house())[-1], run(*calls, house())[-1])
        self.assertEqual(all_after(*calls, house()), all_after(*calls))


class Compact(unittest.TestCase):
    """Promise 11."""

    def test_up_to_the_last_turn(self):
        self.assertEqual(run_from(4, *THREE_TURNS, compact(4), compact(200), compact(3), compact(4)),
                         [[-1], [-1], [0], [-1]])

    def test_from_the_base_on(self):
        self.assertEqual(run_from(4, *THREE_TURNS, compact(0), compact(2), compact(1), compact(0), compact(2),
                                  compact(3), compact(2)),
                         [[0], [0], [-2], [-2], [0], [0], [-2]])

    def test_that_is_the_base(self):
        for turn in range(4):
            with self.subTest(turn=turn):
                self.assertEqual(house_after(*THREE_TURNS, compact(turn))[:4], (0, 3, turn, 1))

    def test_without_turns(self):
        self.assertEqual(run_from(1, begin(), compact(1), compact(0)), [[-1], [0]])

    def test_a_refused_one_changes_nothing(self):
        calls = [*THREE_TURNS, compact(2)]
        for refused in [compact(1), compact(4)]:
            with self.subTest(refused=refused):
                self.assertEqual(all_after(*calls, refused), all_after(*calls))

    def test_turns_go_on_behind_it(self):
        calls = [*THREE_TURNS, compact(3), together(make(7, value=70))]
        self.assertEqual(house_after(*calls)[1:3], (4, 3))
        self.assertEqual(log_after(4, *calls), [(1, 70, (7,))])


class Log(unittest.TestCase):
    """Promise 18."""

    def test_each_number_in_its_place(self):
        calls = [begin(), together(make(4, value=44), make(4, 5, value=45), make(4, 5, 6, value=46), put(4, value=47),
                                   drop(4, 5, 6)), log(1)]
        self.assertEqual(run(*calls)[-1], [5, 1, 44, 1, 4, 1, 45, 2, 4, 5, 1, 46, 3, 4, 5, 6, 2, 47, 1, 4,
                                           0, 0, 3, 4, 5, 6])

    def test_which_turns_there_are(self):
        self.assertEqual(run_from(4, *THREE_TURNS, log(0), log(1), log(3), log(4), log(200)),
                         [[-1], [1, 1, 10, 1, 1], [1, 0, 0, 1, 2], [-1], [-1]])
        self.assertEqual(run_from(1, begin(), log(0), log(1)), [[-1], [-1]])

    def test_which_are_thrown_away(self):
        self.assertEqual(run_from(5, *THREE_TURNS, compact(2), log(0), log(1), log(2), log(3), log(4)),
                         [[-1], [-2], [-2], [1, 0, 0, 1, 2], [-1]])
        self.assertEqual(run_from(5, *THREE_TURNS, compact(3), log(0), log(3), log(4)), [[-1], [-2], [-1]])

    def test_it_changes_nothing(self):
        self.assertEqual(all_after(*THREE_TURNS, log(1), log(0), log(9)), all_after(*THREE_TURNS))


if __name__ == "__main__":
    unittest.main()
