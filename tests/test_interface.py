import unittest

from line import (begin, call, check, close, get, list_below, make, open_session, put, run, tick, together, touch,
                  watch)
from watchedtree.tree import answers

NEW = 0, 1, 10, 0
EVERY_OTHER = [open_session(), close(1), touch(1), tick(3), together(make(1)), get(1), list_below(), watch(0, 1),
               call(9, [0]), call(10, [0]), call(11, [0]), call(12, [0]), call(13, [0]), call(14), call(15, [0]),
               call(16), call(17, [1])]
REFUSED_ANYHOW = [close(0), touch(99), tick(20000), together(), together([200] * 10), get(), get(*[20] * 10),
                  list_below(*[20] * 10), watch(9, *[20] * 10), call(9, [9]), call(15, [9]), call(17, [200])]


class Form(unittest.TestCase):
    def test_how_calls_and_answers_lie(self):
        calls = [*NEW,
                 1, 0, 0,
                 5, 0, 2, 5, 0, 0, 42, 1, 3, 6, 0, 0, 7, 0, 4, 4,
                 5, 0, 2, 5, 0, 0, 42, 0, 3, 6, 0, 0, 7, 0, 3, 4,
                 6, 0, 1, 2, 3, 4,
                 7, 0, 1, 0,
                 8, 1, 2, 1, 1, 3,
                 4, 1, 5, 0,
                 3, 1, 1, 0,
                 2, 1, 1, 0]
        self.assertEqual(answers(calls), [1, 0,
                                          1, 1,
                                          3, -2, 1, 3,
                                          1, 1,
                                          5, 7, 1, 1, 1, 0,
                                          2, 1, 3,
                                          1, 1,
                                          1, 1,
                                          1, 0,
                                          1, 1])

    def test_one_call(self):
        self.assertEqual(answers([0, 1, 0, 0]), [1, 0])

    def test_answers_are_ints(self):
        calls = [*NEW, *open_session(), *together(make(1, value=1, session=1)), *get(1), *list_below(), *touch(1),
                 *together(make(1)), *watch(0)]
        told = answers(calls)
        self.assertIs(type(told), list)
        self.assertEqual({type(number) for number in told}, {int})

    def test_a_hundred_calls(self):
        self.assertEqual(run(begin(), *[open_session()] * 99), [[0]] + [[number] for number in range(1, 100)])

    def test_longest_calls(self):
        orders = [[200] * 10] * 10
        self.assertEqual(run(begin(), *[together(*orders)] * 99), [[0]] + [[-1]] * 99)


class NoWorld(unittest.TestCase):
    def test_every_other_call_answers_that_there_is_none(self):
        for written in EVERY_OTHER + REFUSED_ANYHOW:
            with self.subTest(written=written):
                self.assertEqual(run(written), [[-9]])

    def test_all_in_one_line(self):
        self.assertEqual(run(*EVERY_OTHER), [[-9]] * len(EVERY_OTHER))

    def test_till_a_begin_is_answered_0(self):
        self.assertEqual(run(begin(1000), open_session(), begin(2000), get(), begin(999), open_session()),
                         [[-1], [-9], [-1], [-9], [0], [1]])

    def test_what_came_before_a_world_did_nothing(self):
        self.assertEqual(run(open_session(), together(make(1)), tick(50), watch(0), begin(), open_session(), get(1),
                             watch(0)),
                         [[-9]] * 4 + [[0], [1], [-2], [1]])


class NothingKept(unittest.TestCase):
    def test_what_is_handed_in_stays_as_it_is(self):
        calls = [*NEW, *open_session(), *together(make(1, session=1), put(1, value=5)), *watch(0, 1), *get(1),
                 *list_below(), *together(check(1, version=9)), *tick(100)]
        before = list(calls)
        answers(calls)
        self.assertEqual(calls, before)

    def test_what_is_handed_in_is_never_written_to(self):
        class Guarded(list):
            def refuse(self, *args):
                raise AssertionError("written to")
            __setitem__ = __delitem__ = __iadd__ = append = extend = insert = pop = remove = refuse
            reverse = sort = clear = refuse

        calls = Guarded([*NEW, *open_session(), *together(make(1, session=1)), *watch(0, 1), *get(1), *tick(100)])
        self.assertEqual(answers(calls), answers(list(calls)))

    def test_two_runs_know_nothing_of_one_another(self):
        calls = [*NEW, *open_session(), *tick(5), *together(make(1, session=1)), *watch(0, 1), *get(1)]
        first = answers(calls)
        self.assertEqual(answers(calls), first)
        self.assertEqual(run(open_session()), [[-9]])
        self.assertEqual(run(begin(), get(1), open_session(), watch(0, 1), together(make(1))),
                         [[0], [-2], [1], [1], [1]])

    def test_what_is_given_back_is_a_new_list(self):
        first = answers(list(NEW))
        first.append(7)
        self.assertEqual(answers(list(NEW)), [1, 0])


if __name__ == "__main__":
    unittest.main()
