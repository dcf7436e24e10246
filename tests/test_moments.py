"""A copy is the tree as it was at one moment, and each change is heard once: over many lines of calls in any order."""

import random
import unittest

from line import (ask, begin, client, close, compact, drop, get, keep, log, lose, make, open_session, put, run, take,
                  tick, together, watch)
from told import client_told, house_after, letters_after, log_told

LINES = 150
CALLS = 48
PATHS = [(1,), (2,), (1, 1), (1, 2), (2, 1), (1, 1, 1)]
TREE_CALLS = 0, 1, 2, 3, 4, 5


def any_order(dice):
    path = dice.choice(PATHS)
    value = dice.randrange(100)
    return dice.choice([make(*path, value=value), make(*path, value=value, session=dice.randrange(3)),
                        put(*path, value=value), put(*path, value=value), drop(*path)])


def any_call(dice):
    letter = dice.choice([0, 0, 0, 0, 1, 1, 2, 3])
    rare = [watch(dice.randrange(3), *dice.choice([(), (1,), (2,), (1, 1)])), open_session(), close(dice.randrange(4)),
            tick(dice.randrange(30)), compact(dice.randrange(8)), compact(dice.randrange(3)), lose(letter)]
    return dice.choice([together(*[any_order(dice) for each in range(dice.choice([1, 1, 1, 2]))])] * 8
                       + [take(letter)] * 8 + [keep(letter)] * 2 + [ask(dice.randrange(3))] * 2 + [dice.choice(rare)] * 3)


def any_line(dice):
    first = [begin(), open_session(), together(make(1), make(1, 1), make(2)), watch(0), watch(1, 1), watch(2, 1, 1),
             *[take(0)] * 5]
    return first + [any_call(dice) for each in range(CALLS - len(first))]


def below(path, top):
    return path[:len(top)] == top


def turns_of(calls):
    """The events of all turns: the clients and the base have no say in what happens in the tree."""
    quiet = [each for each in calls if each[0] in TREE_CALLS]
    last = house_after(*quiet)[1]
    # Several lines, as one has a hundred calls at most.
    return [log_told(run(*quiet, log(turn))[-1]) for turn in range(1, last + 1)]


def trees_of(turns):
    """What was there after each turn, from turn 0 on."""
    trees = [{}]
    for events in turns:
        tree = dict(trees[-1])
        for what, value, path in events:
            if what == 0:
                tree.pop(path)
            else:
                tree[path] = value
        trees.append(tree)
    return trees


class Moments(unittest.TestCase):
    def check_client(self, told, turns, trees):
        number, path, up_to, since, events, pictures, entries = told
        if up_to == -1:
            self.assertEqual((since, events, pictures, entries), (0, 0, 0, []))
            return
        there = [(trees[up_to][each], each) for each in sorted(trees[up_to]) if below(each, path)]
        self.assertEqual(entries, there)
        heard = [event for turn in turns[since:up_to] for event in turn if below(event[2], path)]
        self.assertEqual(events, len(heard))
        self.assertGreater(pictures, 0)

    def check_line(self, calls):
        """Looks at each client behind each call; answers how often each of 0 to 5 came of a letter."""
        turns = turns_of(calls)
        trees = trees_of(turns)
        handed = {0: 0, 1: 0, 2: 0, 3: 0, 4: 0, 5: 0}
        for number in range(3):
            told = run(*[written for each in calls for written in [each, client(number)]])
            for state in told[1::2]:
                self.check_client(client_told(state), turns, trees)
        for each, answer in zip(calls, run(*calls)):
            if each[0] in (11, 12) and answer[0] >= 0:
                handed[answer[0]] += 1
        return handed

    def test_over_many_lines(self):
        came = {0: 0, 1: 0, 2: 0, 3: 0, 4: 0, 5: 0}
        for seed in range(LINES):
            with self.subTest(seed=seed):
                for what, count in self.check_line(any_line(random.Random(seed))).items():
                    came[what] += count
        # All that can come of a letter did, so that the lines looked at what they should.
        self.assertGreater(min(came.values()), 50, came)

    def test_a_client_that_is_told_all_comes_to_the_tree_as_it_is(self):
        for seed in range(LINES):
            with self.subTest(seed=seed):
                calls = any_line(random.Random(seed))
                # Whatever lies in the row is thrown away; then the client begins anew.
                calls += [lose(0)] * len(letters_after(*calls)) + [watch(0), take(0), take(0)]
                self.assertLess(len(calls), 100)
                number, path, up_to, since, events, pictures, entries = client_told(run(*calls, client(0))[-1])
                self.assertEqual(up_to, house_after(*calls)[1])
                there = {each: run(*calls, get(*each))[-1] for each in PATHS}
                self.assertEqual(entries, [(there[each][0], each) for each in sorted(there) if there[each] != [-2]])


if __name__ == "__main__":
    unittest.main()
