"""Promises 12 and 13 of letters that ask: what the house sends, and the watcher that the client has then."""

import unittest

from watchedtree.letters import asking_letter
from watchedtree.world import World

from line import ask, begin, compact, keep, lose, make, put, run, run_from, take, together, watch
from told import all_after, asks, letters_after, news, picture, watchers_after

TREE = [begin(), together(make(1, value=10), make(1, 2, value=12), make(2, value=20), make(1, 0, value=11))]
# Client 0 has a copy of what is below 1, up to turn 1; the row is empty.
COPY = [*TREE, watch(0, 1), take(0), take(0)]
# Below 1 something happened in turns 3, 4 and 6, beside it in 2, 4, 5 and 7; all news of it are lost.
LATER = [*COPY, together(put(2, value=21)), together(put(1, value=13)), together(put(2), make(1, 3, value=5), put(1)),
         together(put(2)), together(put(1, 2, value=14)), together(put(2, value=29)), lose(0), lose(0), lose(0)]
NEWS_OF_3 = 2, 13, (1,)
NEWS_OF_4 = (1, 5, (1, 3)), (2, 0, (1,))
NEWS_OF_6 = 2, 14, (1, 2)


class Pictures(unittest.TestCase):
    def test_when_no_turn_is_told(self):
        calls = [*TREE, watch(0, 1), take(0)]
        self.assertEqual(run(*calls)[-1], [2])
        self.assertEqual(letters_after(*calls), [picture(0, 1, 1, (10, (1,)), (11, (1, 0)), (12, (1, 2)))])
        self.assertEqual(watchers_after(*calls), [(0, 1, 1, (1,))])

    def test_of_all_nodes(self):
        self.assertEqual(letters_after(*TREE, watch(2), take(0)),
                         [picture(2, 1, 1, (10, (1,)), (11, (1, 0)), (12, (1, 2)), (20, (2,)))])

    def test_of_one_node(self):
        self.assertEqual(letters_after(*TREE, watch(2, 1, 2), take(0)), [picture(2, 1, 1, (12, (1, 2)))])

    def test_of_none(self):
        for path in [(0,), (1, 1), (1, 2, 1), (9, 9, 9)]:
            with self.subTest(path=path):
                calls = [*TREE, watch(1, *path), take(0)]
                self.assertEqual(letters_after(*calls), [picture(1, 1, 1)])
                self.assertEqual(watchers_after(*calls), [(1, 1, 1, path)])

    def test_before_the_first_turn(self):
        calls = [begin(), watch(1), take(0)]
        self.assertEqual(letters_after(*calls), [picture(1, 1, 0)])
        self.assertEqual(watchers_after(*calls), [(1, 1, 0, ())])

    def test_of_the_turn_in_which_it_is_asked(self):
        calls = [*TREE, watch(0, 2), together(put(2, value=22)), together(put(1)), take(0)]
        self.assertEqual(letters_after(*calls), [picture(0, 1, 3, (22, (2,)))])
        self.assertEqual(watchers_after(*calls), [(0, 1, 3, (2,))])

    def test_when_the_turn_told_is_below_the_base(self):
        for base in [2, 3, 7]:
            with self.subTest(base=base):
                calls = [*LATER, compact(base), ask(0), take(0)]
                self.assertEqual(run(*calls)[-1], [2])
                self.assertEqual(letters_after(*calls),
                                 [picture(0, 1, 7, (0, (1,)), (11, (1, 0)), (14, (1, 2)), (5, (1, 3)))])
                self.assertEqual(watchers_after(*calls), [(0, 1, 7, (1,))])

    def test_when_turn_0_is_below_the_base(self):
        calls = [begin(), watch(0), take(0), take(0), ask(0), together(make(1)), lose(1), compact(1), take(0)]
        self.assertEqual(run(*calls)[-1], [2])
        self.assertEqual(letters_after(*calls), [picture(0, 1, 1, (0, (1,)))])

    def test_when_the_base_has_gone_on_since_the_letter_was_sent(self):
        self.assertEqual(run(*LATER, ask(0), compact(2), take(0))[-1], [2])

    def test_when_the_turn_told_is_above_the_last(self):
        # No client comes to such a turn by calls, so the letter is put together here.
        for behind, came in [(0, 1), (1, 2), (5, 2)]:
            with self.subTest(behind=behind):
                world = World(10)
                self.assertEqual(world.hand_over(asking_letter(0, 1, (), behind)), came)
                self.assertEqual(len(world.net.letters), 1 if came == 2 else 0)
                self.assertEqual([watcher.last for watcher in world.house.watchers], [0])


class News(unittest.TestCase):
    def test_turn_by_turn(self):
        calls = [*LATER, ask(0), take(0)]
        self.assertEqual(run(*calls)[-1], [1])
        self.assertEqual(letters_after(*calls), [news(0, 1, 1, 3, NEWS_OF_3), news(0, 1, 3, 4, *NEWS_OF_4),
                                                 news(0, 1, 4, 6, NEWS_OF_6)])
        self.assertEqual(watchers_after(*calls), [(0, 1, 6, (1,))])

    def test_of_all_that_happened(self):
        calls = [begin(), watch(0), take(0), take(0), ask(0), together(make(1, value=3)), together(make(2)), lose(1),
                 lose(1), take(0)]
        self.assertEqual(run(*calls)[-1], [1])
        self.assertEqual(letters_after(*calls), [news(0, 1, 0, 1, (1, 3, (1,))), news(0, 1, 1, 2, (1, 0, (2,)))])
        self.assertEqual(watchers_after(*calls), [(0, 1, 2, ())])

    def test_behind_just_the_base(self):
        calls = [*LATER, compact(1), ask(0), take(0)]
        self.assertEqual(run(*calls)[-1], [1])
        self.assertEqual(letters_after(*calls), letters_after(*LATER, ask(0), take(0)))

    def test_none_behind_the_last_turn(self):
        calls = [*COPY, ask(0), take(0)]
        self.assertEqual(run(*calls)[-1], [1])
        self.assertEqual(letters_after(*calls), [])
        self.assertEqual(watchers_after(*calls), [(0, 1, 1, (1,))])
        self.assertEqual(run(*COPY, compact(1), ask(0), take(0))[-1], [1])

    def test_none_behind_turn_0(self):
        self.assertEqual(run_from(4, begin(), watch(0), take(0), take(0), ask(0), take(0)), [[0], [1]])

    def test_none_when_all_happened_elsewhere(self):
        calls = [*COPY, together(put(2)), together(put(2)), ask(0), take(0)]
        self.assertEqual(run(*calls)[-1], [1])
        self.assertEqual(letters_after(*calls), [])
        self.assertEqual(watchers_after(*calls), [(0, 1, 1, (1,))])

    def test_the_next_ones_are_behind_the_last_of_these(self):
        self.assertEqual(letters_after(*LATER, ask(0), take(0), together(put(1)))[-1], news(0, 1, 6, 8, (2, 0, (1,))))
        self.assertEqual(letters_after(*COPY, together(put(2)), ask(0), take(0), together(put(1)))[-1],
                         news(0, 1, 1, 3, (2, 0, (1,))))

    def test_the_path_is_that_of_the_letter(self):
        # The letter asks below 1 still when the client watches 2 already.
        calls = [*LATER, ask(0), watch(0, 2), take(0)]
        self.assertEqual(letters_after(*calls)[1:], letters_after(*LATER, ask(0), take(0)))
        self.assertEqual(watchers_after(*calls), [(0, 1, 6, (1,))])


class Numbers(unittest.TestCase):
    def test_a_watcher_with_a_greater_number(self):
        calls = [*TREE, watch(0, 1), watch(0, 2), take(1)]
        for of in [take, keep]:
            with self.subTest(of=of.__name__):
                self.assertEqual(run(*calls, of(0))[-1], [0])
        self.assertEqual(all_after(*calls, keep(0)), all_after(*calls))
        self.assertEqual(letters_after(*calls, take(0)), [picture(0, 2, 1, (20, (2,)))])
        self.assertEqual(watchers_after(*calls, take(0)), [(0, 2, 1, (2,))])

    def test_a_greater_number_when_a_turn_is_told(self):
        calls = [*LATER, ask(0), watch(0, 2), take(1)]
        self.assertEqual(run(*calls, take(0))[-1], [0])
        self.assertEqual(all_after(*calls, keep(0)), all_after(*calls))

    def test_a_client_with_a_greater_number_that_has_no_such_watcher_yet(self):
        calls = [*TREE, watch(0, 1), watch(0, 2), take(0)]
        self.assertEqual(run(*calls)[-1], [2])
        self.assertEqual(letters_after(*calls), [asks(0, 2, [2]),
                                                 picture(0, 1, 1, (10, (1,)), (11, (1, 0)), (12, (1, 2)))])
        self.assertEqual(watchers_after(*calls), [(0, 1, 1, (1,))])

    def test_the_same_number(self):
        calls = [*TREE, watch(0, 1), keep(0), together(put(1)), keep(0)]
        self.assertEqual(run(*calls)[-1], [2])
        self.assertEqual(watchers_after(*calls), [(0, 1, 2, (1,))])

    def test_a_smaller_number(self):
        calls = [*TREE, watch(0, 1), watch(0, 2), take(0), take(0)]
        self.assertEqual(run(*calls)[-1], [2])
        self.assertEqual(watchers_after(*calls), [(0, 2, 1, (2,))])

    def test_a_greater_number_of_another_client(self):
        calls = [*TREE, watch(0, 1), watch(1), watch(1), watch(1), take(3), take(0)]
        self.assertEqual(run(*calls)[-1], [2])
        self.assertEqual(watchers_after(*calls), [(1, 3, 1, ()), (0, 1, 1, (1,))])

    def test_the_old_watch_is_told_nothing_any_more(self):
        calls = [*COPY, watch(0, 2), take(0), lose(0), together(put(1), put(2, value=5))]
        self.assertEqual(letters_after(*calls), [news(0, 2, 1, 2, (2, 5, (2,)))])


class Order(unittest.TestCase):
    def test_each_comes_last(self):
        calls = [begin(), watch(0), watch(1, 1), watch(2, 2), take(1), take(1), take(0)]
        self.assertEqual(watchers_after(*calls), [(1, 1, 0, (1,)), (2, 1, 0, (2,)), (0, 1, 0, ())])

    def test_one_that_was_there_comes_last_by_a_picture(self):
        calls = [begin(), watch(0), watch(1), watch(2), keep(0), keep(1), keep(2)]
        self.assertEqual(watchers_after(*calls), [(0, 1, 0, ()), (1, 1, 0, ()), (2, 1, 0, ())])
        self.assertEqual(watchers_after(*calls, keep(1)), [(0, 1, 0, ()), (2, 1, 0, ()), (1, 1, 0, ())])
        self.assertEqual(watchers_after(*calls, keep(1), keep(0)), [(2, 1, 0, ()), (1, 1, 0, ()), (0, 1, 0, ())])

    def test_one_that_was_there_comes_last_by_news(self):
        calls = [begin(), watch(0, 1), watch(1), watch(2, 3), *[take(0)] * 6, together(make(1)), ask(0)]
        self.assertEqual(watchers_after(*calls), [(0, 1, 1, (1,)), (1, 1, 1, ()), (2, 1, 0, (3,))])
        calls = [*calls, take(2)]
        self.assertEqual(run(*calls)[-1], [1])
        self.assertEqual(watchers_after(*calls), [(1, 1, 1, ()), (2, 1, 0, (3,)), (0, 1, 1, (1,))])
        self.assertEqual([letter[1] for letter in letters_after(*calls, together(put(1)))], [0, 1, 0, 1, 0])

    def test_the_last_stays_so(self):
        calls = [begin(), watch(0), watch(1), keep(0), keep(1), keep(1)]
        self.assertEqual(watchers_after(*calls), [(0, 1, 0, ()), (1, 1, 0, ())])

    def test_one_of_no_use_does_not_come_last(self):
        calls = [begin(), watch(0), watch(0), watch(1), keep(1), keep(2), keep(0)]
        self.assertEqual(watchers_after(*calls), [(0, 2, 0, ()), (1, 1, 0, ())])


class NoChange(unittest.TestCase):
    def test_the_clients_stay_as_they_are(self):
        for asked in [[*TREE, watch(0, 1)], [*LATER, ask(0)]]:
            self.assertEqual(all_after(*asked, take(0))[2:], all_after(*asked)[2:])


if __name__ == "__main__":
    unittest.main()
