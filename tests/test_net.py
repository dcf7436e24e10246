"""Promises 12 to 14: which letter is handed over or thrown away, and what lies in the row afterwards."""

import unittest

from line import ask, begin, keep, letters, lose, make, put, run, run_from, take, together, watch
from told import all_after, asks, client_after, letters_after, news, picture, watchers_after

# Five letters, all different; client 2's watch asks first, so that what it's sent lies last.
ROW = [begin(), watch(2), watch(0, 4), watch(1, 5), watch(0, 6), watch(1, 7)]
ASKED = [asks(2, 1, []), asks(0, 1, [4]), asks(1, 1, [5]), asks(0, 2, [6]), asks(1, 2, [7])]


class WhichLetter(unittest.TestCase):
    def test_of_an_empty_row(self):
        for of in [take, keep, lose]:
            with self.subTest(of=of.__name__):
                self.assertEqual(run_from(1, begin(), of(0), of(1), of(200)), [[-1]] * 3)

    def test_of_one_that_is_not_there(self):
        for of in [take, keep, lose]:
            for place in [5, 6, 100, 200]:
                with self.subTest(of=of.__name__, place=place):
                    self.assertEqual(run(*ROW, of(place))[-1], [-1])
                    self.assertEqual(all_after(*ROW, of(place)), all_after(*ROW))

    def test_of_the_only_one_twice(self):
        self.assertEqual(run_from(2, begin(), watch(0), lose(0), lose(0)), [[0], [-1]])


class Lose(unittest.TestCase):
    def test_each_place(self):
        for place in range(5):
            with self.subTest(place=place):
                self.assertEqual(run(*ROW, lose(place))[-1], [0])
                self.assertEqual(letters_after(*ROW, lose(place)), ASKED[:place] + ASKED[place + 1:])

    def test_nothing_comes_of_it(self):
        self.assertEqual(all_after(*ROW, lose(0))[1:], all_after(*ROW)[1:])
        calls = [begin(), watch(0), take(0)]
        self.assertEqual(all_after(*calls, lose(0))[1:], all_after(*calls)[1:])

    def test_what_is_sent_later_lies_last(self):
        self.assertEqual(letters_after(*ROW, lose(1), ask(2)), [ASKED[0], *ASKED[2:], asks(2, 1, [])])


class Take(unittest.TestCase):
    def test_each_place(self):
        for place in range(5):
            with self.subTest(place=place):
                to, number = ASKED[place][1:3]
                self.assertEqual(run(*ROW, take(place))[-1], [2])
                self.assertEqual(letters_after(*ROW, take(place)),
                                 ASKED[:place] + ASKED[place + 1:] + [picture(to, number, 0)])

    def test_what_is_of_no_use_is_taken_out_too(self):
        calls = [*ROW, take(3)]
        self.assertEqual(run(*calls, take(1))[-1], [0])
        self.assertEqual(letters_after(*calls, take(1)), [ASKED[0], ASKED[2], ASKED[4], picture(0, 2, 0)])

    def test_what_a_client_lacks_something_behind_is_taken_out_too(self):
        calls = [begin(), watch(0), take(0), together(make(1))]
        self.assertEqual(run(*calls, take(1))[-1], [5])
        self.assertEqual(letters_after(*calls, take(1)), [picture(0, 1, 0)])

    def test_what_a_client_is_sent_is_taken_out(self):
        self.assertEqual(run_from(2, begin(), watch(0), take(0), take(0), together(make(1)), take(0), letters(),
                                  take(0)),
                         [[2], [4], [1], [3], [0], [-1]])


class Keep(unittest.TestCase):
    def test_each_place(self):
        for place in range(5):
            with self.subTest(place=place):
                to, number = ASKED[place][1:3]
                self.assertEqual(run(*ROW, keep(place))[-1], [2])
                self.assertEqual(letters_after(*ROW, keep(place)), ASKED + [picture(to, number, 0)])

    def test_one_that_asks_twice(self):
        calls = [begin(), watch(0), keep(0), together(make(1, value=7)), keep(0)]
        self.assertEqual(run_from(2, *calls), [[2], [1], [2]])
        self.assertEqual(letters_after(*calls), [asks(0, 1, []), picture(0, 1, 0), news(0, 1, 0, 1, (1, 7, (1,))),
                                                 picture(0, 1, 1, (7, (1,)))])
        self.assertEqual(watchers_after(*calls), [(0, 1, 1, ())])

    def test_one_that_asks_behind_a_turn_twice(self):
        calls = [begin(), watch(0), take(0), take(0), ask(0), together(make(1, value=7)), keep(0), keep(0)]
        told = news(0, 1, 0, 1, (1, 7, (1,)))
        self.assertEqual(run_from(6, *calls), [[1], [1]])
        self.assertEqual(letters_after(*calls), [asks(0, 1, [], 0), told, told, told])
        self.assertEqual(watchers_after(*calls), [(0, 1, 1, ())])

    def test_a_picture_twice(self):
        calls = [begin(), together(make(1, value=7)), watch(0), take(0), keep(0)]
        self.assertEqual(run_from(4, *calls, keep(0), take(0), keep(0)), [[4], [0], [0], [-1]])
        self.assertEqual(client_after(0, *calls, keep(0)), client_after(0, *calls))
        self.assertEqual(letters_after(*calls, keep(0)), [picture(0, 1, 1, (7, (1,)))])

    def test_news_twice(self):
        calls = [begin(), watch(0), take(0), take(0), together(make(1, value=7)), keep(0)]
        self.assertEqual(run_from(5, *calls, keep(0), take(0), keep(0)), [[3], [0], [0], [-1]])
        self.assertEqual(client_after(0, *calls, keep(0)), (1, (), 1, 0, 1, 1, [(7, (1,))]))
        self.assertEqual(letters_after(*calls, keep(0)), [news(0, 1, 0, 1, (1, 7, (1,)))])


class LettersStay(unittest.TestCase):
    def test_a_picture_when_the_nodes_change(self):
        calls = [begin(), together(make(1, value=7), make(2, value=8)), watch(0), take(0)]
        self.assertEqual(letters_after(*calls, together([2, 0, 0, 0, 2], make(3), put(1, value=9)))[0],
                         picture(0, 1, 1, (7, (1,)), (8, (2,))))

    def test_a_picture_when_a_copy_made_of_it_changes(self):
        calls = [begin(), together(make(1, value=7), make(2, value=8)), watch(0), take(0), keep(0),
                 together(put(1, value=9), [2, 0, 0, 0, 2], make(0, value=4)), keep(1)]
        self.assertEqual(run_from(4, *calls), [[4], [2], [3]])
        self.assertEqual(client_after(0, *calls)[-1], [(4, (0,)), (9, (1,))])
        self.assertEqual(letters_after(*calls)[0], picture(0, 1, 1, (7, (1,)), (8, (2,))))

    def test_a_copy_when_its_letter_is_gone_or_the_nodes_change(self):
        calls = [begin(), together(make(1, value=7)), watch(0), take(0), keep(0)]
        self.assertEqual(client_after(0, *calls, lose(0), together(put(1, value=9), make(2))),
                         (1, (), 1, 1, 0, 1, [(7, (1,))]))

    def test_one_that_asks_when_the_client_watches_anew(self):
        calls = [begin(), watch(0, 1), take(0), take(0), ask(0), watch(0, 2)]
        self.assertEqual(letters_after(*calls), [asks(0, 1, [1], 0), asks(0, 2, [2])])

    def test_news_when_the_client_goes_on_by_them(self):
        calls = [begin(), watch(0), take(0), take(0), together(make(1, value=7)), together(put(1, value=8)), keep(0),
                 keep(1)]
        self.assertEqual(letters_after(*calls), [news(0, 1, 0, 1, (1, 7, (1,))), news(0, 1, 1, 2, (2, 8, (1,)))])


if __name__ == "__main__":
    unittest.main()
