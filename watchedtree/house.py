"""The house: its nodes, sessions, turns and watchers."""

from watchedtree.letters import news_letter
from watchedtree.paths import is_below

GONE = 0
MADE = 1
CHANGED = 2


class Node:
    # A node is never altered: another takes its place, so that a copy of all nodes keeps the old one.
    def __init__(self, value, version, made, changed, held):
        self.value = value
        self.version = version
        self.made = made
        self.changed = changed
        self.held = held


class Event:
    def __init__(self, what, value, path):
        self.what = what
        self.value = value
        self.path = path


class Watcher:
    def __init__(self, client, number, path, last):
        self.client = client
        self.number = number
        self.path = path
        self.last = last


class House:
    def __init__(self, life, net):
        self.life = life
        self.net = net
        self.time = 0
        self.opened = 0
        # Only sessions that last stand here, in the order in which they were opened.
        self.seen = {}
        self.nodes = {}
        self.turns = []
        self.watchers = []

    def last_turn(self):
        return len(self.turns)

    def lasts(self, session):
        return session in self.seen

    def start_session(self):
        self.opened += 1
        self.see_session(self.opened)
        return self.opened

    def see_session(self, session):
        self.seen[session] = self.time

    def end_session(self, session):
        self.seen.pop(session)
        held = sorted([path for path in self.nodes if self.nodes[path].held == session])
        for path in held:
            self.nodes.pop(path)
        self.end_turn([Event(GONE, 0, path) for path in held])

    def pass_time(self, now):
        self.time = max(self.time, now)
        for session in list(self.seen):
            if self.seen[session] + self.life < self.time:
                self.end_session(session)

    def end_turn(self, events):
        if len(events) == 0:
            return
        self.turns.append(events)
        for watcher in self.watchers:
            self.tell_watcher(watcher, events)

    def tell_watcher(self, watcher, events):
        heard = [event for event in events if is_below(event.path, watcher.path)]
        if len(heard) == 0:
            return
        turn = self.last_turn()
        self.net.send(news_letter(watcher.client, watcher.number, watcher.last, turn, heard))
        # Lost news count as sent: that is how the client comes to know that it lacks something.
        watcher.last = turn
