import unittest

from line import (ask, begin, check, client, close, compact, get, house, keep, letters, list_below, log, lose, make,
                  open_session, put, run, run_from, take, tick, together, touch, watch)
from watchedtree.tree import answers

NEW = 0, 1, 10, 0
EVERY_OTHER = [open_session(), close(1), touch(1), tick(3), together(make(1)), get(1), list_below(), watch(0, 1),
               ask(0), compact(0), take(0), keep(0), lose(0), letters(), client(0), house(), log(1)]
REFUSED_ANYHOW = [close(0), touch(99), tick(20000), together(), together([200] * 10), get(), get(*[20] * 10),
                  list_below(*[20] * 10), watch(9, *[20] * 10), ask(9), compact(200), take(200), keep(200), lose(200),
                  client(9), log(0), log(200)]
# A world in which nothing is as at first: a copy that goes on, letters of each kind, two watchers, a base.
FULL_OF_THINGS = [begin(), open_session(), tick(5), together(make(1, value=3)), watch(0, 1), take(0), take(0), watch(1),
                  take(0), together(put(1, value=4), make(2, session=1)), keep(1), ask(0), compact(1), watch(2, 5)]


NEW_WORLD = [letters(), house(), client(0), client(1), client(2), log(1), compact(1), take(0), ask(0), get(1), touch(1)]
NEW_WORLD_TOLD = [[0], [0] * 7, *[[0, 0, -1, 0, 0, 0, 0]] * 3, [-1], [-1], [-1], [-2], [-2], [-1]]


def written(*calls):
    return [number for each in calls for number in each]


class Form(unittest.TestCase):
    def test_how_calls_and_answers_lie(self):
        calls = [*NEW,
                 1, 0, 0,
                 5, 0, 2, 5, 0, 0, 42, 1, 3, 6, 0, 0, 7, 0, 4, 4,
                 5, 0, 2, 5, 0, 0, 42, 0, 3, 6, 0, 0, 7, 0, 3, 4,
                 6, 0, 1, 2, 3, 4,
                 7, 0, 1, 0,
                 8, 1, 2, 1, 1, 3,
                 4, 1, 5, 0,
                 3, 1, 1, 0,
                 2, 1, 1, 0,
                 9, 1, 2, 0,
                 12, 1, 1, 0,
                 11, 1, 0, 0,
                 13, 1, 0, 0,
                 14, 0, 0,
                 10, 1, 1, 0,
                 17, 1, 1, 0,
                 16, 0, 0,
                 15, 1, 2, 0]
        self.assertEqual(answers(calls), [1, 0,
                                          1, 1,
                                          3, -2, 1, 3,
                                          1, 1,
                                          5, 7, 1, 1, 1, 0,
                                          2, 1, 3,
                                          1, 1,
                                          1, 1,
                                          1, 0,
                                          1, 1,
                                          1, -1,
                                          1, 2,
                                          1, 2,
                                          1, 0,
                                          31, 2, 2, 2, 1, 0, -1, 1, 0, 2, 42, 1, 3, 7, 2, 3, 4,
                                          2, 2, 1, 0, -1, 1, 0, 2, 42, 1, 3, 7, 2, 3, 4,
                                          1, 0,
                                          1, -2,
                                          12, 5, 1, 1, 2, 1, 0, 1, 2, 1, 1, 1, 3,
                                          8, 1, 1, 3, -1, 0, 0, 0, 0])

    def test_one_call(self):
        self.assertEqual(answers([0, 1, 0, 0]), [1, 0])

    def test_answers_are_ints(self):
        told = answers(written(*FULL_OF_THINGS, *EVERY_OTHER, *REFUSED_ANYHOW))
        self.assertIs(type(told), list)
        self.assertEqual({type(number) for number in told}, {int})

    def test_a_hundred_calls(self):
        self.assertEqual(run(begin(), *[open_session()] * 99), [[0]] + [[number] for number in range(1, 100)])

    def test_longest_calls(self):
        orders = [[200] * 10] * 10
        self.assertEqual(run(begin(), *[together(*orders)] * 99), [[0]] + [[-1]] * 99)

    def test_a_refusal_is_its_number_alone(self):
        for each, answer in [(ask(9), -1), (ask(1), -2), (compact(1), -1), (take(0), -1), (keep(0), -1), (lose(0), -1),
                             (client(3), -1), (log(1), -1)]:
            with self.subTest(each=each):
                self.assertEqual(run(begin(), each)[-1], [answer])
        self.assertEqual(run_from(14, *FULL_OF_THINGS, compact(0), log(1)), [[-2], [-2]])


class NoWorld(unittest.TestCase):
    def test_every_other_call_answers_that_there_is_none(self):
        for each in EVERY_OTHER + REFUSED_ANYHOW:
            with self.subTest(each=each):
                self.assertEqual(run(each), [[-9]])
                self.assertEqual(run(begin(1000), each), [[-1], [-9]])

    def test_all_in_one_line(self):
        self.assertEqual(run(*EVERY_OTHER), [[-9]] * len(EVERY_OTHER))

    def test_till_a_begin_is_answered_0(self):
        self.assertEqual(run(begin(1000), open_session(), begin(2000), get(), begin(999), open_session()),
                         [[-1], [-9], [-1], [-9], [0], [1]])

    def test_what_came_before_a_world_did_nothing(self):
        self.assertEqual(run(open_session(), together(make(1)), tick(50), watch(0), begin(), open_session(), get(1),
                             watch(0)),
                         [[-9]] * 4 + [[0], [1], [-2], [1]])
        self.assertEqual(run(*EVERY_OTHER, begin(), *NEW_WORLD)[len(EVERY_OTHER):], [[0], *NEW_WORLD_TOLD])


class BeginAgain(unittest.TestCase):
    """Promise 1."""

    def test_nothing_of_the_old_world_is_left(self):
        self.assertEqual(run(*FULL_OF_THINGS, begin(), *NEW_WORLD)[len(FULL_OF_THINGS):], [[0], *NEW_WORLD_TOLD])

    def test_the_new_one_goes_on_as_the_first_did(self):
        self.assertEqual(run(*FULL_OF_THINGS, *FULL_OF_THINGS, letters(), house())[len(FULL_OF_THINGS):],
                         run(*FULL_OF_THINGS, letters(), house()))

    def test_a_refused_one_leaves_the_world_as_it_is(self):
        told = [letters(), house(), client(0), client(1), client(2), log(2)]
        self.assertEqual(run(*FULL_OF_THINGS, begin(1000), begin(2000), *told)[-6:], run(*FULL_OF_THINGS, *told)[-6:])

    def test_the_new_life_holds(self):
        self.assertEqual(run_from(1, begin(100), begin(3), open_session(), tick(4), touch(1)), [[0], [1], [0], [-1]])


class NothingKept(unittest.TestCase):
    def test_what_is_handed_in_stays_as_it_is(self):
        calls = written(*FULL_OF_THINGS, *EVERY_OTHER, *REFUSED_ANYHOW, together(check(1, version=9)), tick(100))
        before = list(calls)
        answers(calls)
        self.assertEqual(calls, before)

    def test_what_is_handed_in_is_never_written_to(self):
        class Guarded(list):
            def refuse(self, *args):
                raise AssertionError("written to")
            __setitem__ = __delitem__ = __iadd__ = append = extend = insert = pop = remove = refuse
            reverse = sort = clear = refuse

        calls = Guarded(written(*FULL_OF_THINGS, *EVERY_OTHER, *REFUSED_ANYHOW))
        self.assertEqual(answers(calls), answers(list(calls)))

    def test_two_runs_know_nothing_of_one_another(self):
        calls = written(*FULL_OF_THINGS, letters(), house(), client(0), client(1), client(2), log(2))
        first = answers(calls)
        self.assertEqual(answers(calls), first)
        self.assertEqual(run(*EVERY_OTHER), [[-9]] * len(EVERY_OTHER))
        self.assertEqual(run(begin(), *NEW_WORLD), [[0], *NEW_WORLD_TOLD])

    def test_what_is_given_back_is_a_new_list(self):
        first = answers(list(NEW))
        first.append(7)
        self.assertEqual(answers(list(NEW)), [1, 0])


if __name__ == "__main__":
    unittest.main()
