import unittest

from line import begin, check, close, drop, get, list_below, make, open_session, put, run, run_from, tick, together
from line import touch

# Session 1 is over, 2 lasts; 1 and 1.1 are free, 2 is held by session 2; 1 has version 2, the others 1.
HOUSE = [begin(), open_session(), open_session(), close(1),
         together(make(1, value=10), make(1, 1, value=11), make(2, value=20, session=2), put(1, value=12))]
# 20 nodes: 0 to 9, and below 0 those with 0 to 9; 9 is held by session 1.
FULL = [begin(), open_session(),
        together(*[make(number) for number in range(6)]),
        together(*[make(number) for number in range(6, 9)], make(9, session=1)),
        together(*[make(0, number) for number in range(5)]),
        together(*[make(0, number) for number in range(5, 10)])]


def why(*orders, before=HOUSE):
    return run_from(len(before), *before, together(*orders))[0]


class Form(unittest.TestCase):
    """Promise 6: what is refused before any order is looked at."""

    def test_how_many_orders(self):
        for count, answer in [(0, [-1]), (1, [1]), (6, [1]), (7, [-1]), (10, [-1])]:
            with self.subTest(count=count):
                orders = [make(number) for number in range(count)]
                self.assertEqual(run(begin(), together(*orders)), [[0], answer])

    def test_kinds(self):
        for kind, answer in [(0, [1]), (1, [-2, 0, 1]), (2, [-2, 0, 1]), (3, [0]), (4, [-1]), (200, [-1])]:
            with self.subTest(kind=kind):
                self.assertEqual(run(begin(), together([kind, 0, 0, 0, 1])), [[0], answer])

    def test_values(self):
        for value, answer in [(0, [1]), (99, [1]), (100, [-1]), (200, [-1])]:
            with self.subTest(value=value):
                self.assertEqual(run(begin(), together(make(1, value=value))), [[0], answer])

    def test_the_value_counts_for_each_kind(self):
        for order in [put(1, value=100), drop(1, 1, value=100), check(7, value=100)]:
            with self.subTest(order=order):
                self.assertEqual(why(order), [-1])

    def test_versions_and_sessions_have_no_bound(self):
        self.assertEqual(why(put(1, version=200)), [-2, 0, 6])
        self.assertEqual(why(make(7, version=200)), [2])
        self.assertEqual(why(make(7, session=200)), [-2, 0, 7])
        self.assertEqual(why(put(1, session=200), drop(1, 1, session=1), check(7, session=99)), [2])

    def test_paths(self):
        for path in [(), (10,), (1, 10), (1, 1, 10), (200,), (10, 1), (1, 1, 1, 1), (1, 2, 3, 4, 5, 6)]:
            for order in [make(*path), put(*path), drop(*path), check(*path)]:
                with self.subTest(order=order):
                    self.assertEqual(why(order), [-1])

    def test_paths_at_their_edges(self):
        self.assertEqual(run(begin(), together(make(9), make(9, 9), make(9, 9, 9), make(0), make(0, 0), make(0, 0, 0))),
                         [[0], [1]])

    def test_it_comes_ahead_of_what_cannot_be_done(self):
        for wrong in [[4, 0, 0, 0, 1], make(3, value=100), make()]:
            with self.subTest(wrong=wrong):
                self.assertEqual(why(make(1), wrong), [-1])
        self.assertEqual(why(*[make(1)] * 7), [-1])

    def test_it_changes_nothing(self):
        self.assertEqual(run_from(1, begin(), together(make(1), make(2, value=100)), get(1), tick(0)),
                         [[-1], [-2], [0]])


class WhyNotMake(unittest.TestCase):
    def test_each_reason(self):
        self.assertEqual(why(make(1)), [-2, 0, 2])
        self.assertEqual(why(make(1, 1)), [-2, 0, 2])
        self.assertEqual(why(make(3, session=1)), [-2, 0, 7])
        self.assertEqual(why(make(3, session=3)), [-2, 0, 7])
        self.assertEqual(why(make(0, 0, 0), before=FULL), [-2, 0, 8])
        self.assertEqual(why(make(3, 1)), [-2, 0, 3])
        self.assertEqual(why(make(1, 2, 1)), [-2, 0, 3])
        self.assertEqual(why(make(2, 1)), [-2, 0, 4])

    def test_what_can_be_done(self):
        for order in [make(3), make(3, session=2), make(1, 2), make(1, 1, 0, session=2), make(1, 2, session=2)]:
            with self.subTest(order=order):
                self.assertEqual(why(order), [2])

    def test_such_a_node_is_told_first(self):
        self.assertEqual(why(make(1, session=1)), [-2, 0, 2])
        self.assertEqual(why(make(1), before=FULL), [-2, 0, 2])
        self.assertEqual(why(make(1, session=9), before=FULL), [-2, 0, 2])

    def test_the_session_is_told_ahead_of_the_rest(self):
        self.assertEqual(why(make(0, 0, 0, session=9), before=FULL), [-2, 0, 7])
        self.assertEqual(why(make(3, 1, session=1)), [-2, 0, 7])
        self.assertEqual(why(make(2, 1, session=1)), [-2, 0, 7])

    def test_no_room_is_told_ahead_of_what_is_above(self):
        self.assertEqual(why(make(1, 1, 1), before=FULL), [-2, 0, 8])
        self.assertEqual(why(make(9, 1), before=FULL), [-2, 0, 8])

    def test_only_what_is_right_above_counts(self):
        self.assertEqual(why(make(2, 1, 1)), [-2, 0, 3])

    def test_twenty_have_room(self):
        self.assertEqual(run(*FULL)[-1], [4])
        self.assertEqual(why(drop(0, 9), make(0, 0, 0), make(0, 0, 1), before=FULL), [-2, 2, 8])
        self.assertEqual(why(drop(0, 9), make(0, 0, 0), before=FULL), [5])
        self.assertEqual(why(drop(0, 9), make(0, 0, 0), make(0, 9), before=FULL), [-2, 2, 8])

    def test_a_session_may_hold_without_making_it(self):
        self.assertEqual(run_from(2, begin(), open_session(), together(make(1, session=1), put(1, value=3)), get(1)),
                         [[1], [3, 2, 1, 1, 1]])


class WhyNotSetOrDrop(unittest.TestCase):
    def test_there_is_none(self):
        for order in [put(3), put(3, version=1), put(1, 2), drop(3), drop(3, version=1), drop(1, 1, 1)]:
            with self.subTest(order=order):
                self.assertEqual(why(order), [-2, 0, 1])

    def test_another_version(self):
        for order in [put(1, version=1), put(1, version=3), put(2, version=2), drop(2, version=2),
                      drop(1, 1, version=2)]:
            with self.subTest(order=order):
                self.assertEqual(why(order), [-2, 0, 6])

    def test_its_own_version_or_none(self):
        for order in [put(1, version=2), put(1), put(2, version=1), drop(2, version=1), drop(2), drop(1, 1)]:
            with self.subTest(order=order):
                self.assertEqual(why(order), [2])

    def test_another_node_below(self):
        self.assertEqual(why(drop(1)), [-2, 0, 5])
        self.assertEqual(why(drop(1, version=2)), [-2, 0, 5])

    def test_the_version_is_told_ahead_of_a_node_below(self):
        self.assertEqual(why(drop(1, version=1)), [-2, 0, 6])

    def test_set_does_not_mind_a_node_below(self):
        self.assertEqual(why(put(1)), [2])

    def test_a_node_two_below(self):
        self.assertEqual(why(make(1, 1, 1), drop(1, 1)), [-2, 1, 5])
        self.assertEqual(why(drop(1, 1), drop(1)), [2])

    def test_the_session_of_set_and_drop_does_not_count(self):
        self.assertEqual(why(put(2, session=1), drop(2, session=77)), [2])


class WhyNotCheck(unittest.TestCase):
    def test_version_0(self):
        self.assertEqual(why(check(1)), [-2, 0, 2])
        self.assertEqual(why(check(3)), [1])
        self.assertEqual(why(check(3, 3, 3)), [1])

    def test_another_version(self):
        self.assertEqual(why(check(3, version=1)), [-2, 0, 1])
        self.assertEqual(why(check(1, version=1)), [-2, 0, 6])
        self.assertEqual(why(check(1, version=3)), [-2, 0, 6])
        self.assertEqual(why(check(1, version=2)), [1])
        self.assertEqual(why(check(2, version=1)), [1])

    def test_the_value_does_not_count(self):
        self.assertEqual(why(check(1, version=2, value=99)), [1])


class Together(unittest.TestCase):
    def test_one_behind_the_other(self):
        self.assertEqual(why(make(3), make(3, 3), make(3, 3, 3), put(3, version=1), check(3, version=2), drop(3, 3, 3)),
                         [2])
        self.assertEqual(why(make(3), drop(3), check(3), make(3), check(3)), [-2, 4, 2])

    def test_which_order_is_told(self):
        for place in range(6):
            with self.subTest(place=place):
                orders = [make(number) for number in range(3, 9)]
                orders[place] = put(9)
                self.assertEqual(why(*orders), [-2, place, 1])

    def test_the_first_that_cannot_be_done_is_told(self):
        self.assertEqual(why(make(3), make(1), put(9)), [-2, 1, 2])

    def test_at_one_that_cannot_be_done_nothing_is(self):
        told = run_from(len(HOUSE), *HOUSE,
                        together(make(3), put(1, value=99), drop(1, 1), drop(2), make(2), put(9)),
                        get(3), get(1), get(1, 1), get(2), list_below(), touch(2), tick(0))
        self.assertEqual(told, [[-2, 5, 1], [-2], [12, 2, 1, 1, 0], [11, 1, 1, 1, 0], [20, 1, 1, 1, 2], [2, 1, 2],
                                [0], [1]])

    def test_a_turn_comes_only_if_something_happened(self):
        self.assertEqual(run_from(1, begin(), together(check(1)), together(make(1)), together(check(1, version=1)),
                                  together(check(1)), together(put(1), check(1, version=2)), together(drop(1)),
                                  together(check(1))),
                         [[0], [1], [1], [-2, 0, 2], [2], [3], [3]])

    def test_a_set_to_the_same_value_happens_too(self):
        self.assertEqual(run_from(2, begin(), together(make(1, value=5)), together(put(1, value=5)), get(1)),
                         [[2], [5, 2, 1, 2, 0]])

    def test_made_and_dropped_is_a_turn(self):
        self.assertEqual(run_from(1, begin(), together(make(1), drop(1)), get(1)), [[1], [-2]])

    def test_all_orders_of_a_call_are_in_one_turn(self):
        self.assertEqual(run_from(1, begin(), together(make(1), make(2)), together(put(1), put(2), put(1)), get(1),
                                  get(2)),
                         [[1], [2], [0, 3, 1, 2, 0], [0, 2, 1, 2, 0]])

    def test_versions_made_changed_and_held(self):
        self.assertEqual(run_from(3, begin(), open_session(), together(make(5)),
                                  together(make(1, value=99, session=1, version=44)), get(1),
                                  together(put(1, value=0)), together(put(1, value=7, version=2, session=0)), get(1)),
                         [[2], [99, 1, 2, 2, 1], [3], [4], [7, 3, 2, 4, 1]])

    def test_dropped_and_made_again_within_one_call(self):
        self.assertEqual(run_from(4, begin(), open_session(), together(make(1, value=3, session=1)),
                                  together(put(1, value=4)),
                                  together(drop(1, version=2), make(1, value=6)), get(1), close(1), get(1)),
                         [[3], [6, 1, 3, 3, 0], [3], [6, 1, 3, 3, 0]])

    def test_dropped_and_made_again_later(self):
        self.assertEqual(run_from(4, begin(), together(make(1, value=3)), together(put(1)), together(drop(1)),
                                  together(make(1, value=8)), get(1)),
                         [[4], [8, 1, 4, 4, 0]])

    def test_held_within_the_same_call(self):
        self.assertEqual(run_from(2, begin(), open_session(), together(make(1, session=1), make(1, 1)), get(1)),
                         [[-2, 1, 4], [-2]])


if __name__ == "__main__":
    unittest.main()
