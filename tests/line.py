"""Writes calls as the list that answers takes, and reads what it gives back."""

from watchedtree.tree import answers

MAKE, SET, DROP, CHECK = 0, 1, 2, 3


def call(number, numbers=(), lists=()):
    written = [number, len(numbers), *numbers, len(lists)]
    for row in lists:
        written += [len(row), *row]
    return written


def begin(life=10):
    return call(0, [life])


def open_session():
    return call(1)


def close(session):
    return call(2, [session])


def touch(session):
    return call(3, [session])


def tick(time):
    return call(4, [time])


def together(*orders):
    return call(5, [], orders)


def get(*path):
    return call(6, [], [path])


def list_below(*path):
    return call(7, [], [path])


def watch(client, *path):
    return call(8, [client], [path])


def ask(client):
    return call(9, [client])


def compact(turn):
    return call(10, [turn])


def take(letter):
    return call(11, [letter])


def keep(letter):
    return call(12, [letter])


def lose(letter):
    return call(13, [letter])


def letters():
    return call(14)


def client(number):
    return call(15, [number])


def house():
    return call(16)


def log(turn):
    return call(17, [turn])


def make(*path, value=0, session=0, version=0):
    return [MAKE, version, value, session, *path]


def put(*path, value=0, version=0, session=0):
    return [SET, version, value, session, *path]


def drop(*path, version=0, value=0, session=0):
    return [DROP, version, value, session, *path]


def check(*path, version=0, value=0, session=0):
    return [CHECK, version, value, session, *path]


def split(told):
    rows = []
    place = 0
    while place < len(told):
        size = told[place]
        row = told[place + 1:place + 1 + size]
        assert len(row) == size, told
        rows.append(row)
        place += 1 + size
    return rows


def run(*calls):
    """The answers to these calls, a list for each."""
    rows = split(answers([number for written in calls for number in written]))
    assert len(rows) == len(calls), rows
    return rows


def run_from(count, *calls):
    """The answers to the calls from the one with this number (from 0 on)."""
    return run(*calls)[count:]
