"""What no call tells yet: turns and their events, letters on their way, watchers, clients."""

import unittest

from watchedtree.house import Watcher
from watchedtree.letters import asking_letter
from watchedtree.orders import Order, do_together
from watchedtree.world import World, answer_call

from line import check, drop, make, put

OPEN, CLOSE, TICK, TOGETHER, WATCH = 1, 2, 4, 5, 8


def told(event):
    return event.what, event.value, event.path


def turns_of(world):
    return [[told(event) for event in turn] for turn in world.house.turns]


def letters_of(world):
    return [(letter.kind, letter.client, letter.number, letter.path, letter.behind, letter.turn,
             [told(event) for event in letter.events], letter.entries) for letter in world.net.letters]


def order(world, *rows):
    return answer_call(world, TOGETHER, [], list(rows))


class Turns(unittest.TestCase):
    def test_what_happened_in_the_order_of_the_orders(self):
        world = World(10)
        order(world, make(5, value=50), make(2, value=20), put(5, value=51), check(5, version=2))
        order(world, check(9))
        order(world, drop(5, value=7), make(5, value=52))
        self.assertEqual(turns_of(world), [[(1, 50, (5,)), (1, 20, (2,)), (2, 51, (5,))],
                                           [(0, 0, (5,)), (1, 52, (5,))]])

    def test_no_turn_when_refused(self):
        world = World(10)
        self.assertEqual(order(world, make(1), put(9)), [-2, 1, 1])
        self.assertEqual(turns_of(world), [])

    def test_what_a_session_held_goes_in_order_of_paths(self):
        world = World(10)
        answer_call(world, OPEN, [], [])
        order(world, make(9, session=1), make(3), make(3, 9, session=1), make(4, session=1), make(3, 1),
              make(3, 1, 5, session=1))
        answer_call(world, CLOSE, [1], [])
        self.assertEqual(turns_of(world)[1:], [[(0, 0, (3, 1, 5)), (0, 0, (3, 9)), (0, 0, (4,)), (0, 0, (9,))]])

    def test_sessions_go_in_their_order_each_in_a_turn(self):
        world = World(10)
        for session in range(4):
            answer_call(world, OPEN, [], [])
        order(world, make(1, session=4), make(2, session=3), make(3, session=1), make(0, session=3))
        # Seen again, session 1 is still ahead of the others.
        answer_call(world, 3, [1], [])
        answer_call(world, TICK, [11], [])
        self.assertEqual(turns_of(world)[1:], [[(0, 0, (3,))], [(0, 0, (0,)), (0, 0, (2,))], [(0, 0, (1,))]])


class Asking(unittest.TestCase):
    def test_watch_sends_a_letter_that_asks(self):
        world = World(10)
        answer_call(world, WATCH, [2], [[4, 5]])
        answer_call(world, WATCH, [0], [[]])
        answer_call(world, WATCH, [2], [[1]])
        self.assertEqual(letters_of(world), [(0, 2, 1, (4, 5), None, 0, [], []), (0, 0, 1, (), None, 0, [], []),
                                             (0, 2, 2, (1,), None, 0, [], [])])

    def test_a_refused_one_sends_none_and_changes_nothing(self):
        world = World(10)
        answer_call(world, WATCH, [3], [[1]])
        answer_call(world, WATCH, [0], [[10]])
        self.assertEqual(letters_of(world), [])
        self.assertEqual([(client.number, client.path) for client in world.clients], [(0, ())] * 3)

    def test_watch_makes_no_watcher_by_itself(self):
        world = World(10)
        answer_call(world, WATCH, [0], [[]])
        order(world, make(1))
        self.assertEqual(world.house.watchers, [])
        self.assertEqual(len(world.net.letters), 1)

    def test_a_client_that_has_a_copy_asks_behind_its_turn(self):
        world = World(10)
        client = world.clients[1]
        client.up_to = 7
        client.ask_house(world.net)
        self.assertEqual(letters_of(world), [(0, 1, 0, (), 7, 0, [], [])])

    def test_clients_at_first(self):
        for client in World(10).clients:
            self.assertEqual((client.number, client.path, client.up_to, client.since, client.events_had,
                              client.pictures_had, client.entries), (0, (), None, 0, 0, 0, {}))

    def test_watch_leaves_no_copy(self):
        world = World(10)
        client = world.clients[1]
        client.up_to, client.since, client.events_had, client.pictures_had = 7, 5, 4, 2
        client.entries = {(1,): 3}
        answer_call(world, WATCH, [1], [[6]])
        self.assertEqual((client.number, client.path, client.up_to, client.since, client.events_had,
                          client.pictures_had, client.entries), (1, (6,), None, 0, 0, 0, {}))
        self.assertEqual(letters_of(world), [(0, 1, 1, (6,), None, 0, [], [])])


class Room(unittest.TestCase):
    def test_a_hundred_have_room(self):
        world = World(10)
        for number in range(101):
            world.net.send(asking_letter(0, number, (), None))
        self.assertEqual([letter.number for letter in world.net.letters], list(range(100)))


class News(unittest.TestCase):
    def world_with(self, *watchers):
        world = World(10)
        world.house.watchers = list(watchers)
        return world

    def test_of_what_happened_below_the_path_in_order(self):
        world = self.world_with(Watcher(1, 6, (5,), 0))
        order(world, make(5, value=1), make(4, value=2), make(5, 3, value=3), put(5, value=4))
        self.assertEqual(letters_of(world),
                         [(1, 1, 6, (), 0, 1, [(1, 1, (5,)), (1, 3, (5, 3)), (2, 4, (5,))], [])])

    def test_none_of_a_turn_in_which_nothing_happened_below(self):
        watcher = Watcher(1, 6, (5,), 0)
        world = self.world_with(watcher)
        order(world, make(4))
        self.assertEqual((letters_of(world), watcher.last), ([], 0))
        order(world, make(5))
        order(world, put(4))
        order(world, put(5, value=8))
        self.assertEqual(letters_of(world), [(1, 1, 6, (), 0, 2, [(1, 0, (5,))], []),
                                             (1, 1, 6, (), 2, 4, [(2, 8, (5,))], [])])
        self.assertEqual(watcher.last, 4)

    def test_a_node_above_the_path_is_not_below_it(self):
        world = self.world_with(Watcher(0, 1, (5, 5), 0))
        order(world, make(5), make(5, 4))
        self.assertEqual(letters_of(world), [])

    def test_watchers_in_the_order_in_which_they_came(self):
        world = self.world_with(Watcher(2, 1, (), 0), Watcher(0, 9, (1,), 0))
        order(world, make(1))
        self.assertEqual([letter[1:3] for letter in letters_of(world)], [(2, 1), (0, 9)])

    def test_of_what_goes_with_a_session(self):
        world = self.world_with(Watcher(0, 1, (2,), 0))
        answer_call(world, OPEN, [], [])
        order(world, make(1, session=1), make(2), make(2, 1, session=1))
        answer_call(world, TICK, [11], [])
        self.assertEqual(letters_of(world)[1:], [(1, 0, 1, (), 1, 2, [(0, 0, (2, 1))], [])])

    def test_lost_news_count_as_sent(self):
        watcher = Watcher(0, 1, (), 0)
        world = self.world_with(watcher)
        for number in range(100):
            world.net.send(asking_letter(0, number, (), None))
        do_together(world.house, [Order(make(1))])
        self.assertEqual((len(world.net.letters), watcher.last), (100, 1))


class NotBuilt(unittest.TestCase):
    def test_calls_that_are_not_built_are_not_answered(self):
        for number in range(9, 18):
            with self.subTest(number=number):
                self.assertRaises(NotImplementedError, answer_call, World(10), number, [0], [])


if __name__ == "__main__":
    unittest.main()
