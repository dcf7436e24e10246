import unittest

from line import begin, drop, get, list_below, make, open_session, run_from, tick, together, watch

NODES = [begin(), open_session(),
         together(make(5, value=50), make(2, value=20), make(5, 9, value=59), make(5, 0, value=1)),
         together(make(5, 9, 4), make(5, 9, 3, session=1), make(9, value=99), make(2, 5))]
NO_PATHS = [(10,), (20,), (5, 10), (5, 9, 10), (10, 5), (5, 9, 4, 1), (20,) * 10, (0,) * 10]


class Get(unittest.TestCase):
    """Promise 7."""

    def look(self, *path):
        return run_from(len(NODES), *NODES, get(*path))[0]

    def test_what_is_there(self):
        self.assertEqual(self.look(5), [50, 1, 1, 1, 0])
        self.assertEqual(self.look(5, 0), [1, 1, 1, 1, 0])
        self.assertEqual(self.look(5, 9, 3), [0, 1, 2, 2, 1])
        self.assertEqual(self.look(9), [99, 1, 2, 2, 0])

    def test_what_is_no_path(self):
        for path in [(), *NO_PATHS]:
            with self.subTest(path=path):
                self.assertEqual(self.look(*path), [-1])

    def test_a_path_without_a_node(self):
        for path in [(0,), (9, 9), (9, 9, 9), (5, 1), (5, 9, 5), (2, 5, 0)]:
            with self.subTest(path=path):
                self.assertEqual(self.look(*path), [-2])

    def test_it_changes_nothing(self):
        self.assertEqual(run_from(len(NODES), *NODES, get(5), get(1), get(), get(5), tick(0)),
                         [[50, 1, 1, 1, 0], [-2], [-1], [50, 1, 1, 1, 0], [2]])


class List(unittest.TestCase):
    """Promise 8."""

    def look(self, *path):
        return run_from(len(NODES), *NODES, list_below(*path))[0]

    def test_what_is_right_below_in_order(self):
        self.assertEqual(self.look(), [3, 2, 5, 9])
        self.assertEqual(self.look(5), [2, 0, 9])
        self.assertEqual(self.look(2), [1, 5])
        self.assertEqual(self.look(5, 9), [2, 3, 4])

    def test_nothing_below(self):
        self.assertEqual(self.look(9), [0])
        self.assertEqual(self.look(5, 0), [0])
        self.assertEqual(self.look(5, 9, 4), [0])

    def test_what_is_no_path(self):
        for path in NO_PATHS:
            with self.subTest(path=path):
                self.assertEqual(self.look(*path), [-1])

    def test_a_path_without_a_node(self):
        for path in [(0,), (5, 1), (9, 9), (5, 9, 5), (1, 5)]:
            with self.subTest(path=path):
                self.assertEqual(self.look(*path), [-2])

    def test_the_empty_path_of_an_empty_house(self):
        self.assertEqual(run_from(1, begin(), list_below(), list_below(0)), [[0], [-2]])

    def test_all_ten(self):
        backwards = [make(number) for number in range(9, -1, -1)]
        self.assertEqual(run_from(3, begin(), together(*backwards[:5]), together(*backwards[5:]), list_below()),
                         [[10, 0, 1, 2, 3, 4, 5, 6, 7, 8, 9]])

    def test_what_is_dropped_is_not_told(self):
        self.assertEqual(run_from(len(NODES), *NODES, together(drop(9)), list_below(), list_below(9)),
                         [[3], [2, 2, 5], [-2]])


class Watch(unittest.TestCase):
    """Promise 9."""

    def test_clients(self):
        self.assertEqual(run_from(1, begin(), watch(0, 1), watch(1, 1), watch(2, 1), watch(3, 1), watch(9, 1)),
                         [[1], [1], [1], [-1], [-1]])

    def test_what_is_no_path(self):
        for path in NO_PATHS:
            with self.subTest(path=path):
                self.assertEqual(run_from(1, begin(), watch(0, *path), watch(3, *path)), [[-1], [-1]])

    def test_the_empty_path_and_paths_without_a_node(self):
        for path in [(), (0,), (9,), (9, 9), (0, 0, 0), (9, 9, 9)]:
            with self.subTest(path=path):
                self.assertEqual(run_from(1, begin(), watch(0, *path)), [[1]])

    def test_each_client_has_its_own_number(self):
        self.assertEqual(run_from(1, begin(), watch(0, 1), watch(0, 1), watch(1), watch(0, 2), watch(2), watch(1, 1)),
                         [[1], [2], [1], [3], [1], [2]])

    def test_a_refused_one_does_not_count(self):
        self.assertEqual(run_from(1, begin(), watch(0), watch(0, 10), watch(3), watch(0)), [[1], [-1], [-1], [2]])

    def test_it_makes_no_turn(self):
        self.assertEqual(run_from(1, begin(), watch(0), tick(0)), [[1], [0]])

    def test_as_often_as_a_line_has_calls(self):
        self.assertEqual(run_from(1, begin(), *[watch(1)] * 99), [[number] for number in range(1, 100)])


if __name__ == "__main__":
    unittest.main()
