"""Reads what letters, client, house and log answer into tuples and lists, and asks these calls at a line's end."""

from line import client, house, letters, log, run

NONE = -1


class Told:
    def __init__(self, numbers):
        self.numbers = list(numbers)

    def one(self):
        return self.numbers.pop(0)

    def some(self, count):
        return tuple(self.one() for place in range(count))

    def path(self):
        return self.some(self.one())

    def rows(self, read):
        return [read() for place in range(self.one())]

    def event(self):
        return (*self.some(2), self.path())

    def entry(self):
        return self.one(), self.path()

    def letter(self):
        return (*self.some(3), self.path(), *self.some(2), self.rows(self.event), self.rows(self.entry))

    def watcher(self):
        return (*self.some(3), self.path())

    def session(self):
        return self.some(2)


def whole(numbers, read):
    told = Told(numbers)
    found = read(told)
    assert told.numbers == [], (numbers, found)
    return found


def letters_told(numbers):
    """(kind, client, number, path, behind, turn, events (what, value, path), entries (value, path)) of each."""
    return whole(numbers, lambda told: told.rows(told.letter))


def client_told(numbers):
    """(number, path, up to, since, events, pictures, entries (value, path))."""
    return whole(numbers, lambda told: (told.one(), told.path(), *told.some(4), told.rows(told.entry)))


def house_told(numbers):
    """(time, last turn, base, nodes, opened, sessions (number, seen), watchers (client, number, last, path))."""
    return whole(numbers, lambda told: (*told.some(5), told.rows(told.session), told.rows(told.watcher)))


def log_told(numbers):
    return whole(numbers, lambda told: told.rows(told.event))


def letters_after(*calls):
    return letters_told(run(*calls, letters())[-1])


def client_after(number, *calls):
    return client_told(run(*calls, client(number))[-1])


def house_after(*calls):
    return house_told(run(*calls, house())[-1])


def watchers_after(*calls):
    return house_after(*calls)[-1]


def log_after(turn, *calls):
    return log_told(run(*calls, log(turn))[-1])


def all_after(*calls):
    """All that the calls which change nothing can tell of a world."""
    return run(*calls, letters(), house(), *[client(number) for number in range(3)])[len(calls):]


def asks(of, number, path, behind=NONE):
    return 0, of, number, tuple(path), behind, 0, [], []


def news(to, number, behind, turn, *events):
    return 1, to, number, (), behind, turn, list(events), []


def picture(to, number, turn, *entries):
    return 2, to, number, (), NONE, turn, [], list(entries)
