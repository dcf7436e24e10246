"""Promises 9, 10 and 15: letters on their way, what asks, the net's room, the news that watchers are sent."""

import unittest

from line import (ask, begin, client, close, compact, drop, keep, letters, lose, make, open_session, put, run,
                  run_from, take, tick, together, watch)
from told import (NONE, all_after, asks, client_after, house_after, letters_after, news, picture, watchers_after)

# Client 0 has a picture of the empty tree, turn 0; its watcher has the empty path.
COPY_OF_0 = [begin(), watch(0), take(0), take(0)]
# The row is full: asks of client 1, two pictures of turn 0, 97 of the 98 news of 49 turns.
FULL = [begin(), watch(0), watch(1), watch(2), take(0), take(1), together(make(1)),
        *[together(put(1, value=value)) for value in range(1, 49)]]


class Told(unittest.TestCase):
    """Promise 15: each number of each kind of letter in its place."""

    def test_none(self):
        self.assertEqual(run(begin(), letters())[-1], [0])

    def test_what_asks(self):
        self.assertEqual(run(begin(), watch(2, 4, 5, 6), watch(0), watch(1, 7), watch(1, 8, 9), letters())[-1],
                         [4, 0, 2, 1, 3, 4, 5, 6, -1, 0, 0, 0, 0, 0, 1, 0, -1, 0, 0, 0, 0, 1, 1, 1, 7, -1, 0, 0, 0,
                          0, 1, 2, 2, 8, 9, -1, 0, 0, 0])

    def test_what_asks_behind_a_turn(self):
        self.assertEqual(run(begin(), together(make(3)), watch(1, 3), take(0), take(0), ask(1), letters())[-1],
                         [1, 0, 1, 1, 1, 3, 1, 0, 0, 0])

    def test_a_picture(self):
        self.assertEqual(run(begin(), together(make(4, value=44), make(4, 5, value=45), make(4, 5, 6, value=46)),
                             together(make(3, value=33)), watch(2, 4), watch(2), take(1), letters())[-1],
                         [2, 0, 2, 1, 1, 4, -1, 0, 0, 0,
                          2, 2, 2, 0, -1, 2, 0, 4, 33, 1, 3, 44, 1, 4, 45, 2, 4, 5, 46, 3, 4, 5, 6])

    def test_news(self):
        self.assertEqual(run(begin(), together(make(4, value=44)), watch(1, 4), take(0), lose(0), together(make(9)),
                             together(put(4, value=40), make(4, 5, value=45), make(4, 5, 6, value=46), drop(9),
                                      drop(4, 5, 6)), letters())[-1],
                         [1, 1, 1, 1, 0, 1, 3, 4, 2, 40, 1, 4, 1, 45, 2, 4, 5, 1, 46, 3, 4, 5, 6, 0, 0, 3, 4, 5, 6, 0])

    def test_it_changes_nothing(self):
        calls = [*COPY_OF_0, together(make(1)), ask(0), watch(1)]
        self.assertEqual(all_after(*calls, letters()), all_after(*calls))


class Watch(unittest.TestCase):
    """Promise 9."""

    def test_it_asks(self):
        self.assertEqual(letters_after(begin(), watch(2, 4, 5), watch(0), watch(2, 1)),
                         [asks(2, 1, [4, 5]), asks(0, 1, []), asks(2, 2, [1])])

    def test_a_refused_one_changes_nothing(self):
        calls = [*COPY_OF_0, watch(1, 2)]
        for refused in [watch(3, 1), watch(9), watch(0, 10), watch(1, 1, 1, 1, 1)]:
            with self.subTest(refused=refused):
                self.assertEqual(all_after(*calls, refused), all_after(*calls))

    def test_it_makes_no_watcher_by_itself(self):
        calls = [begin(), watch(0), together(make(1))]
        self.assertEqual(watchers_after(*calls), [])
        self.assertEqual(letters_after(*calls), [asks(0, 1, [])])

    def test_the_watcher_of_the_watch_before_stays(self):
        self.assertEqual(watchers_after(*COPY_OF_0, watch(0, 5)), [(0, 1, 0, ())])

    def test_it_leaves_no_copy(self):
        calls = [begin(), together(make(6, value=66)), watch(1), take(0), take(0), together(put(6)), take(0)]
        self.assertEqual(client_after(1, *calls), (1, (), 2, 1, 1, 1, [(0, (6,))]))
        self.assertEqual(client_after(1, *calls, watch(1, 6, 7)), (2, (6, 7), NONE, 0, 0, 0, []))
        self.assertEqual(letters_after(*calls, watch(1, 6, 7)), [asks(1, 2, [6, 7])])

    def test_only_that_client_is_changed(self):
        calls = [begin(), watch(1), take(0), take(0)]
        self.assertEqual(client_after(1, *calls, watch(0, 3), watch(2)), client_after(1, *calls))


class Ask(unittest.TestCase):
    """Promise 10."""

    def test_clients(self):
        watched = [begin(), watch(0), watch(1), watch(2)]
        self.assertEqual(run_from(4, *watched, ask(0), ask(1), ask(2), ask(3), ask(9)), [[-1]] * 5)
        self.assertEqual(letters_after(*watched, ask(2), ask(0), ask(3), ask(9), ask(1))[3:],
                         [asks(2, 1, []), asks(0, 1, []), asks(1, 1, [])])

    def test_one_that_does_not_watch_yet(self):
        self.assertEqual(run_from(1, begin(), ask(0), watch(1), ask(0), ask(1), ask(2), ask(3)),
                         [[-2], [1], [-2], [-1], [-2], [-1]])

    def test_a_refused_one_changes_nothing(self):
        calls = [*COPY_OF_0, watch(1)]
        for refused in [ask(2), ask(3), ask(9)]:
            with self.subTest(refused=refused):
                self.assertEqual(all_after(*calls, refused), all_after(*calls))

    def test_with_no_copy(self):
        self.assertEqual(run(begin(), watch(0, 1, 2), ask(0))[-1], [-1])
        self.assertEqual(letters_after(begin(), watch(0, 1, 2), ask(0)), [asks(0, 1, [1, 2])] * 2)

    def test_with_a_copy_up_to_turn_0(self):
        self.assertEqual(run(*COPY_OF_0, ask(0))[-1], [0])
        self.assertEqual(letters_after(*COPY_OF_0, ask(0)), [asks(0, 1, [], 0)])

    def test_with_a_copy_that_goes_on(self):
        calls = [*COPY_OF_0, together(make(1)), take(0), together(make(2)), ask(0)]
        self.assertEqual(run(*calls)[-1], [1])
        self.assertEqual(letters_after(*calls)[-1], asks(0, 1, [], 1))

    def test_with_no_copy_any_more(self):
        calls = [*COPY_OF_0, watch(0, 3), ask(0)]
        self.assertEqual(run(*calls)[-1], [-1])
        self.assertEqual(letters_after(*calls), [asks(0, 2, [3])] * 2)

    def test_it_changes_no_client_and_no_house(self):
        self.assertEqual(all_after(*COPY_OF_0, ask(0))[1:], all_after(*COPY_OF_0)[1:])


class Room(unittest.TestCase):
    def test_a_hundred_have_room(self):
        row = letters_after(*FULL)
        self.assertEqual(len(row), 100)
        self.assertEqual(row[:3], [asks(1, 1, []), picture(0, 1, 0), picture(2, 1, 0)])
        self.assertEqual([letter[5] for letter in row[3:]], [turn for turn in range(1, 50) for twice in range(2)][:-1])

    def test_what_finds_none_is_lost_and_counts_as_sent(self):
        # Of the last turn's news the second found no room; of one more turn none does.
        self.assertEqual(watchers_after(*FULL), [(0, 1, 49, ()), (2, 1, 49, ())])
        self.assertEqual(watchers_after(*FULL, together(drop(1))), [(0, 1, 50, ()), (2, 1, 50, ())])
        self.assertEqual(letters_after(*FULL, together(drop(1))), letters_after(*FULL))

    def test_news_behind_lost_ones_tell_that_they_are(self):
        row = letters_after(*FULL, lose(1), lose(1), together(drop(1)))
        self.assertEqual(row[-2:], [news(0, 1, 49, 50, (0, 0, (1,))), news(2, 1, 49, 50, (0, 0, (1,)))])
        self.assertEqual(row[-3], news(0, 1, 48, 49, (2, 48, (1,))))

    def test_one_place_more(self):
        self.assertEqual(len(letters_after(*FULL, lose(1), lose(1), together(drop(1)))), 100)
        self.assertEqual(len(letters_after(*FULL, lose(1), together(drop(1)))), 100)
        self.assertEqual(len(letters_after(*FULL, lose(1))), 99)

    def test_ask_and_watch_without_room(self):
        self.assertEqual(run_from(len(FULL), *FULL, ask(1), ask(0), watch(1, 3), client(1)),
                         [[-1], [-1], [2], [2, 1, 3, -1, 0, 0, 0, 0]])
        self.assertEqual(letters_after(*FULL, ask(1), ask(0), watch(1, 3)), letters_after(*FULL))

    def test_take_makes_room_for_what_is_sent(self):
        calls = [*FULL, take(0)]
        self.assertEqual(run(*calls)[-1], [2])
        row = letters_after(*calls)
        self.assertEqual((len(row), row[-1]), (100, picture(1, 1, 49, (48, (1,)))))
        self.assertEqual(row[:-1], letters_after(*FULL)[1:])
        self.assertEqual(watchers_after(*calls), [(0, 1, 49, ()), (2, 1, 49, ()), (1, 1, 49, ())])

    def test_keep_makes_none(self):
        calls = [*FULL, keep(0)]
        self.assertEqual(run(*calls)[-1], [2])
        self.assertEqual(letters_after(*calls), letters_after(*FULL))
        self.assertEqual(watchers_after(*calls), [(0, 1, 49, ()), (2, 1, 49, ()), (1, 1, 49, ())])

    def test_news_that_are_asked_for_and_find_no_room(self):
        # Client 0 takes its picture and asks behind turn 0: 49 news, of which as many as there's room for are sent.
        calls = [*FULL, take(1), ask(0)]
        self.assertEqual(letters_after(*calls)[-1], asks(0, 1, [], 0))
        taken = [*calls, lose(0), take(98)]
        self.assertEqual(run(*taken)[-1], [1])
        self.assertEqual(letters_after(*taken)[98:], [news(0, 1, 0, 1, (1, 0, (1,))), news(0, 1, 1, 2, (2, 1, (1,)))])
        self.assertEqual(watchers_after(*taken), [(2, 1, 49, ()), (0, 1, 49, ())])
        kept = [*calls, keep(99)]
        self.assertEqual(run(*kept)[-1], [1])
        self.assertEqual(letters_after(*kept), letters_after(*calls))
        self.assertEqual(watchers_after(*kept), [(2, 1, 49, ()), (0, 1, 49, ())])


class News(unittest.TestCase):
    def watched(self, *watches):
        """Watchers in this order, and an empty row."""
        return [begin(), open_session(), *watches, *[take(0)] * len(watches), *[lose(0)] * len(watches)]

    def test_of_what_happened_below_the_path_in_order(self):
        calls = [*self.watched(watch(1, 5)), together(make(5, value=1), make(4, value=2), make(5, 3, value=3),
                                                      put(5, value=4))]
        self.assertEqual(letters_after(*calls), [news(1, 1, 0, 1, (1, 1, (5,)), (1, 3, (5, 3)), (2, 4, (5,)))])
        self.assertEqual(watchers_after(*calls), [(1, 1, 1, (5,))])

    def test_none_of_a_turn_in_which_nothing_happened_below(self):
        calls = [*self.watched(watch(1, 5)), together(make(4))]
        self.assertEqual((letters_after(*calls), watchers_after(*calls)), ([], [(1, 1, 0, (5,))]))
        calls = [*calls, together(make(5)), together(put(4)), together(put(5, value=8))]
        self.assertEqual(letters_after(*calls), [news(1, 1, 0, 2, (1, 0, (5,))), news(1, 1, 2, 4, (2, 8, (5,)))])
        self.assertEqual(watchers_after(*calls), [(1, 1, 4, (5,))])

    def test_what_is_above_the_path_or_beside_it_is_not_below(self):
        calls = [*self.watched(watch(0, 5, 5)), together(make(5), make(5, 4), make(4))]
        self.assertEqual(letters_after(*calls), [])
        self.assertEqual(letters_after(*calls, together(make(5, 5), make(5, 5, 1), put(5))),
                         [news(0, 1, 0, 2, (1, 0, (5, 5)), (1, 0, (5, 5, 1)))])

    def test_watchers_in_the_order_in_which_they_came_to_be(self):
        calls = [*self.watched(watch(2), watch(0, 1), watch(1, 3)), together(make(1))]
        self.assertEqual(letters_after(*calls), [news(2, 1, 0, 1, (1, 0, (1,))), news(0, 1, 0, 1, (1, 0, (1,)))])
        self.assertEqual(watchers_after(*calls), [(2, 1, 1, ()), (0, 1, 1, (1,)), (1, 1, 0, (3,))])

    def test_of_what_goes_with_a_session(self):
        calls = [*self.watched(watch(0, 2), watch(1)), together(make(1, session=1), make(2), make(2, 1, session=1)),
                 lose(0), lose(0)]
        for end in [close(1), tick(11)]:
            with self.subTest(end=end):
                self.assertEqual(letters_after(*calls, end), [news(0, 1, 1, 2, (0, 0, (2, 1))),
                                                              news(1, 1, 1, 2, (0, 0, (1,)), (0, 0, (2, 1)))])
                self.assertEqual(watchers_after(*calls, end), [(0, 1, 2, (2,)), (1, 1, 2, ())])

    def test_of_several_sessions_turn_by_turn(self):
        calls = [*self.watched(watch(0), watch(1, 2)), open_session(),
                 together(make(1, session=2), make(2, session=1)), lose(0), lose(0), tick(11)]
        self.assertEqual(letters_after(*calls), [news(0, 1, 1, 2, (0, 0, (2,))), news(1, 1, 1, 2, (0, 0, (2,))),
                                                 news(0, 1, 2, 3, (0, 0, (1,)))])

    def test_none_of_a_session_that_held_nothing_or_of_what_is_refused(self):
        for quiet in [close(1), tick(11), together(put(1)), together(make(1), make(1)), compact(0), compact(1)]:
            with self.subTest(quiet=quiet):
                self.assertEqual(letters_after(*self.watched(watch(0)), quiet), [])

    def test_they_stay_as_they_were(self):
        calls = [*self.watched(watch(0)), together(make(1, value=5), make(2, value=6))]
        before = letters_after(*calls)
        later = [*calls, together(put(1, value=9), drop(2)), tick(11), compact(2)]
        self.assertEqual(letters_after(*later)[:1], before)
        self.assertEqual(house_after(*later)[1:3], (2, 2))


if __name__ == "__main__":
    unittest.main()
