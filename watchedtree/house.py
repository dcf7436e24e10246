"""The house: its nodes, sessions, turns and watchers."""

from watchedtree.events import GONE, Event
from watchedtree.letters import NEWS_SENT, NO_USE, PICTURE_SENT, news_letter, picture_letter
from watchedtree.paths import is_below


class Node:
    # A node is never altered: another takes its place, so that a copy of all nodes keeps the old one.
    def __init__(self, value, version, made, changed, held):
        self.value = value
        self.version = version
        self.made = made
        self.changed = changed
        self.held = held


class Watcher:
    def __init__(self, client, number, path, last):
        self.client = client
        self.number = number
        self.path = path
        self.last = last


class House:
    def __init__(self, life, net):
        self.life = life
        self.net = net
        self.time = 0
        self.opened = 0
        # Only sessions that last stand here, in the order in which they were opened.
        self.seen = {}
        self.nodes = {}
        # Turns up to the base stay in this list, so that a turn's place tells its number.
        self.turns = []
        self.base = 0
        self.watchers = []

    def last_turn(self):
        return len(self.turns)

    def has_turn(self, turn):
        return 1 <= turn <= self.last_turn()

    def events_of(self, turn):
        return self.turns[turn - 1]

    def lasts(self, session):
        return session in self.seen

    def start_session(self):
        self.opened += 1
        self.see_session(self.opened)
        return self.opened

    def see_session(self, session):
        self.seen[session] = self.time

    def end_session(self, session):
        self.seen.pop(session)
        held = sorted([path for path in self.nodes if self.nodes[path].held == session])
        for path in held:
            self.nodes.pop(path)
        self.end_turn([Event(GONE, 0, path) for path in held])

    def pass_time(self, now):
        self.time = max(self.time, now)
        for session in list(self.seen):
            if self.seen[session] + self.life < self.time:
                self.end_session(session)

    def end_turn(self, events):
        if len(events) == 0:
            return
        self.turns.append(events)
        for watcher in self.watchers:
            self.tell_watcher(watcher, self.last_turn())

    def tell_watcher(self, watcher, turn):
        heard = [event for event in self.events_of(turn) if is_below(event.path, watcher.path)]
        if len(heard) == 0:
            return
        self.net.send(news_letter(watcher.client, watcher.number, watcher.last, turn, heard))
        # Lost news count as sent: that is how the client comes to know that it lacks something.
        watcher.last = turn

    def hear_asking(self, letter):
        if self.has_later_watcher(letter.client, letter.number):
            return NO_USE
        if self.can_tell_from(letter.behind):
            self.tell_from(letter)
            return NEWS_SENT
        self.show_picture(letter)
        return PICTURE_SENT

    def has_later_watcher(self, client, number):
        return any([watcher.client == client and watcher.number > number for watcher in self.watchers])

    def can_tell_from(self, turn):
        return turn is not None and self.base <= turn <= self.last_turn()

    def tell_from(self, letter):
        watcher = Watcher(letter.client, letter.number, letter.path, letter.behind)
        for turn in range(letter.behind + 1, self.last_turn() + 1):
            self.tell_watcher(watcher, turn)
        self.put_last(watcher)

    def show_picture(self, letter):
        turn = self.last_turn()
        nodes = self.nodes
        entries = [(path, nodes[path].value) for path in sorted(nodes) if is_below(path, letter.path)]
        self.net.send(picture_letter(letter.client, letter.number, turn, entries))
        self.put_last(Watcher(letter.client, letter.number, letter.path, turn))

    def put_last(self, watcher):
        others = [other for other in self.watchers if other.client != watcher.client]
        self.watchers = others + [watcher]
