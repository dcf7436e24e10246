"""Promises 12 and 13 of news and pictures, and promise 16: what a client has, and how its copy goes on."""

import unittest

from line import (ask, begin, client, close, compact, drop, keep, letters, lose, make, open_session, put, run,
                  run_from, take, together, watch)
from told import NONE, all_after, client_after, letters_after, news, picture

# Client 0 has a copy of the empty tree up to turn 0; the row is empty.
EMPTY = [begin(), watch(0), take(0), take(0)]
# Client 1 has a copy of what is below 1, up to turn 1; the row is empty.
COPY = [begin(), together(make(1, value=10), make(2, value=20)), watch(1, 1), take(0), take(0)]


class Told(unittest.TestCase):
    """Promise 16."""

    def test_clients(self):
        self.assertEqual(run_from(1, begin(), client(0), client(1), client(2), client(3), client(9)),
                         [[0, 0, -1, 0, 0, 0, 0]] * 3 + [[-1]] * 2)

    def test_each_number_in_its_place(self):
        calls = [begin(), together(make(4, value=44), make(5)), together(make(4, 5, value=45)), watch(2, 7), watch(2),
                 take(1), take(1), together(make(4, 5, 6, value=46)), take(1), together(put(4, value=40), drop(5)),
                 take(1), client(2)]
        self.assertEqual(run(*calls)[-1], [2, 0, 4, 2, 3, 1, 3, 40, 1, 4, 45, 2, 4, 5, 46, 3, 4, 5, 6])

    def test_paths(self):
        for path in [(), (3,), (3, 4), (3, 4, 5)]:
            with self.subTest(path=path):
                self.assertEqual(run(begin(), watch(1, *path), client(1))[-1],
                                 [1, len(path), *path, -1, 0, 0, 0, 0])

    def test_each_client_has_its_own(self):
        calls = [begin(), watch(0, 1), watch(2, 3), watch(2, 2), take(0), take(2)]
        self.assertEqual([client_after(number, *calls) for number in range(3)],
                         [(1, (1,), 0, 0, 0, 1, []), (0, (), NONE, 0, 0, 0, []), (2, (2,), NONE, 0, 0, 0, [])])

    def test_it_changes_nothing(self):
        self.assertEqual(all_after(*COPY, client(1), client(0), client(9)), all_after(*COPY))


class News(unittest.TestCase):
    def unchanged(self, came, before, hand):
        self.assertEqual(run(*before, hand)[-1], [came])
        self.assertEqual(all_after(*before, hand)[1:], all_after(*before)[1:])

    def test_that_go_on(self):
        calls = [*EMPTY, together(make(1, value=7), make(1, 3, value=8))]
        self.assertEqual(run(*calls, take(0))[-1], [3])
        self.assertEqual(client_after(0, *calls, take(0)), (1, (), 1, 0, 2, 1, [(7, (1,)), (8, (1, 3))]))

    def test_of_each_kind_of_event(self):
        calls = [*EMPTY, together(make(1, value=7), make(2, value=8), make(3, value=9)), take(0),
                 together(put(1, value=70), drop(2)), take(0)]
        self.assertEqual(client_after(0, *calls), (1, (), 2, 0, 5, 1, [(70, (1,)), (9, (3,))]))

    def test_of_what_goes_with_a_session(self):
        calls = [begin(), open_session(), together(make(1, session=1), make(2, session=1, value=6), make(3)),
                 watch(0), take(0), take(0), close(1), take(0)]
        self.assertEqual(run(*calls)[-1], [3])
        self.assertEqual(client_after(0, *calls), (1, (), 2, 1, 2, 1, [(0, (3,))]))

    def test_several_events_of_one_path(self):
        calls = [*EMPTY, together(make(1, value=1), put(1, value=2), drop(1), make(1, value=3)), take(0)]
        self.assertEqual(client_after(0, *calls), (1, (), 1, 0, 4, 1, [(3, (1,))]))
        calls = [*calls, together(put(1, value=4), drop(1)), take(0)]
        self.assertEqual(client_after(0, *calls), (1, (), 2, 0, 6, 1, []))
        calls = [*calls, together(make(1, value=5), drop(1)), take(0)]
        self.assertEqual(client_after(0, *calls), (1, (), 3, 0, 8, 1, []))

    def test_the_order_of_the_copy(self):
        calls = [*EMPTY, together(make(5, value=1), make(0, value=2), make(5, 1, value=3)), take(0),
                 together(make(5, 0, value=4), make(5, 1, 9, value=5), make(3, value=6), put(0, value=7)), take(0)]
        self.assertEqual(client_after(0, *calls)[-1],
                         [(7, (0,)), (6, (3,)), (1, (5,)), (4, (5, 0)), (3, (5, 1)), (5, (5, 1, 9))])

    def test_of_another_watch(self):
        calls = [*COPY, together(put(1, value=11)), watch(1, 1)]
        # The client has no copy now, but that these are another watch's comes first.
        self.unchanged(0, calls, take(0))
        self.unchanged(0, [*calls, take(1), lose(1), together(put(1))], take(0))

    def test_of_another_watch_when_there_is_a_copy(self):
        calls = [begin(), watch(1), watch(1), take(0), together(make(1)), take(0), take(2)]
        self.assertEqual(run(*calls)[-1], [4])
        self.assertEqual(letters_after(*calls), [picture(1, 1, 0), news(1, 1, 0, 1, (1, 0, (1,)))])
        self.unchanged(0, calls, take(1))

    def test_of_the_watch_before_that_the_house_still_keeps(self):
        # The second watch's ask lies on, so the first one's watcher is sent news of later turns still.
        calls = [begin(), watch(1), take(0), take(0), watch(1), together(make(1))]
        self.assertEqual(letters_after(*calls)[-1], news(1, 1, 0, 1, (1, 0, (1,))))
        self.unchanged(0, calls, take(1))

    def test_to_a_client_that_has_no_copy(self):
        calls = [begin(), watch(0), take(0), together(make(1))]
        self.unchanged(5, calls, take(1))
        self.unchanged(5, calls, keep(1))

    def test_of_a_turn_that_the_copy_goes_up_to(self):
        calls = [*EMPTY, together(make(1)), keep(0)]
        self.unchanged(0, calls, take(0))

    def test_of_a_turn_before_that(self):
        calls = [*EMPTY, together(make(1)), together(put(1, value=4)), together(drop(1)), keep(0), keep(1), keep(2)]
        self.assertEqual(run_from(7, *calls), [[3], [3], [3]])
        for place in range(3):
            with self.subTest(place=place):
                self.unchanged(0, calls, take(place))

    def test_of_a_gap(self):
        calls = [*EMPTY, together(make(1, value=1)), together(put(1, value=2)), together(put(1, value=3))]
        self.unchanged(5, calls, keep(1))
        self.unchanged(5, calls, keep(2))
        self.unchanged(5, [*calls, keep(0)], keep(2))
        self.assertEqual(run_from(7, *calls, keep(2), keep(1), keep(0), keep(2), keep(1), keep(2), keep(1)),
                         [[5], [5], [3], [5], [3], [3], [0]])

    def test_behind_a_turn_before_the_one_up_to_which_the_copy_goes(self):
        # The watcher is put back to turn 1 by an old letter, while the client has a picture of turn 2.
        calls = [begin(), watch(0, 1), keep(0), take(1), ask(0), together(make(1, value=1)), lose(2),
                 together(make(2)), keep(0), take(2), take(1), lose(1), together(put(1, value=5)), letters()]
        self.assertEqual(letters_after(*calls)[1:], [news(0, 1, 1, 3, (2, 5, (1,)))])
        self.assertEqual(client_after(0, *calls), (1, (1,), 2, 2, 0, 2, [(1, (1,))]))
        self.assertEqual(run(*calls, take(1))[-1], [3])
        self.assertEqual(client_after(0, *calls, take(1)), (1, (1,), 3, 2, 1, 2, [(5, (1,))]))

    def test_behind_just_the_turn_up_to_which_the_copy_goes(self):
        calls = [*COPY, together(put(2)), together(put(1, value=12)), take(0)]
        self.assertEqual(run(*calls)[-1], [3])
        self.assertEqual(client_after(1, *calls), (1, (1,), 3, 1, 1, 1, [(12, (1,))]))

    def test_only_that_client_hears_them(self):
        calls = [begin(), watch(0), watch(1), *[take(0)] * 4, together(make(1, value=3))]
        self.assertEqual([client_after(number, *calls, take(1)) for number in range(3)],
                         [(1, (), 0, 0, 0, 1, []), (1, (), 1, 0, 1, 1, [(3, (1,))]), (0, (), NONE, 0, 0, 0, [])])

    def test_the_house_is_not_changed(self):
        calls = [*EMPTY, together(make(1, value=3))]
        self.assertEqual(all_after(*calls, keep(0))[:2], all_after(*calls)[:2])

    def test_that_were_asked_for_bring_the_copy_up(self):
        calls = [*COPY, together(put(1, value=11)), together(put(2)), together(make(1, 1, value=12)), lose(0), lose(0),
                 ask(1), take(0), take(0), take(0)]
        self.assertEqual(run_from(10, *calls), [[1], [1], [3], [3]])
        self.assertEqual(client_after(1, *calls), (1, (1,), 4, 1, 2, 1, [(11, (1,)), (12, (1, 1))]))


class Pictures(unittest.TestCase):
    def unchanged(self, before, hand):
        self.assertEqual(run(*before, hand)[-1], [0])
        self.assertEqual(all_after(*before, hand)[1:], all_after(*before)[1:])

    def test_the_first(self):
        calls = [begin(), together(make(1, value=10), make(0, value=5)), together(put(1, value=11)), watch(2), take(0)]
        self.assertEqual(run(*calls, take(0))[-1], [4])
        self.assertEqual(client_after(2, *calls, take(0)), (1, (), 2, 2, 0, 1, [(5, (0,)), (11, (1,))]))

    def test_with_no_nodes(self):
        self.assertEqual(run(*EMPTY)[-1], [4])
        self.assertEqual(client_after(0, *EMPTY), (1, (), 0, 0, 0, 1, []))
        calls = [*EMPTY, together(make(1)), take(0), together(drop(1)), lose(0), ask(0), compact(2), take(0)]
        self.assertEqual(client_after(0, *calls)[-1], [(0, (1,))])
        self.assertEqual(run(*calls, take(0))[-1], [4])
        self.assertEqual(client_after(0, *calls, take(0)), (1, (), 2, 2, 0, 2, []))

    def test_of_another_watch(self):
        calls = [begin(), together(make(1)), watch(0), take(0), watch(0)]
        self.unchanged(calls, take(0))
        # Of a later turn than the copy, but of the watch before.
        calls = [begin(), watch(0), keep(0), take(1), together(make(1)), lose(1), watch(0), keep(0), letters()]
        self.assertEqual(letters_after(*calls)[-1], picture(0, 1, 1, (0, (1,))))
        self.unchanged(calls, take(2))

    def test_of_another_watch_when_there_is_a_copy(self):
        calls = [begin(), watch(0), watch(0), keep(0), take(1), take(2), together(make(1))]
        self.assertEqual(client_after(0, *calls), (2, (), 0, 0, 0, 1, []))
        self.assertEqual(letters_after(*calls)[1], picture(0, 1, 0))
        self.unchanged(calls, take(1))

    def test_an_older_one(self):
        calls = [begin(), watch(0), keep(0), together(make(1)), keep(0), take(3)]
        self.assertEqual(run(*calls)[-1], [4])
        self.unchanged(calls, take(1))

    def test_one_that_is_older_than_the_news(self):
        calls = [begin(), watch(0), keep(0), keep(1), together(make(1)), take(2), keep(1)]
        self.assertEqual(run(*calls)[-1], [0])
        self.assertEqual(client_after(0, *calls), (1, (), 1, 0, 1, 1, [(0, (1,))]))

    def test_one_of_the_same_turn(self):
        calls = [begin(), together(make(1)), watch(0), keep(0), keep(0), take(1)]
        self.assertEqual(run(*calls)[-1], [4])
        self.unchanged(calls, take(1))
        # The copy came to that turn by news.
        calls = [begin(), watch(0), keep(0), take(1), together(make(1)), take(1), take(0)]
        self.assertEqual(client_after(0, *calls), (1, (), 1, 0, 1, 1, [(0, (1,))]))
        self.assertEqual(letters_after(*calls), [picture(0, 1, 1, (0, (1,)))])
        self.unchanged(calls, take(0))

    def test_one_of_the_same_turn_0(self):
        self.unchanged([begin(), watch(0), keep(0), keep(0), take(1)], take(1))

    def test_a_later_one(self):
        calls = [begin(), watch(0), keep(0), take(1), together(make(1, value=1), make(2)), take(1),
                 together(put(1, value=2), drop(2)), lose(1), keep(0)]
        self.assertEqual(client_after(0, *calls), (1, (), 1, 0, 2, 1, [(1, (1,)), (0, (2,))]))
        self.assertEqual(run(*calls, take(1))[-1], [4])
        self.assertEqual(client_after(0, *calls, take(1)), (1, (), 2, 2, 0, 2, [(2, (1,))]))

    def test_news_go_on_behind_it(self):
        calls = [*COPY, together(put(1, value=11)), take(0), together(make(1, 1, value=12), put(1, value=13)), take(0)]
        self.assertEqual(run(*calls)[-1], [3])
        self.assertEqual(client_after(1, *calls), (1, (1,), 3, 1, 3, 1, [(13, (1,)), (12, (1, 1))]))

    def test_watch_puts_all_back(self):
        calls = [*COPY, together(put(1, value=11)), take(0), watch(1, 1)]
        self.assertEqual(client_after(1, *calls), (2, (1,), NONE, 0, 0, 0, []))
        self.assertEqual(client_after(1, *calls, take(0), take(0)), (2, (1,), 2, 2, 0, 1, [(11, (1,))]))

    def test_only_that_client_has_it(self):
        calls = [begin(), watch(0), watch(1), take(0), take(0), take(1)]
        self.assertEqual([client_after(number, *calls)[2] for number in range(3)], [NONE, 0, NONE])

    def test_two_clients_with_copies_of_their_own(self):
        calls = [begin(), together(make(1, value=1)), watch(0), watch(1), *[take(0)] * 4,
                 together(put(1, value=2)), take(0)]
        self.assertEqual(client_after(0, *calls)[-1], [(2, (1,))])
        self.assertEqual(client_after(1, *calls)[-1], [(1, (1,))])


if __name__ == "__main__":
    unittest.main()
