"""Clients: each keeps a copy of a part of the tree."""

from watchedtree.events import GONE
from watchedtree.letters import COPY_GOES_ON, HAS_PICTURE, LACKS_SOMETHING, NO_USE, asking_letter


class Client:
    def __init__(self, client):
        self.client = client
        self.number = 0
        self.path = ()
        self.forget_copy()

    def forget_copy(self):
        # None stands for no copy: a copy may well be there and have no entries.
        self.up_to = None
        self.since = 0
        self.copied = {}
        self.events_had = 0
        self.pictures_had = 0

    def watches(self):
        return self.number > 0

    def start_watch(self, path, net):
        self.number += 1
        self.path = path
        self.forget_copy()
        self.ask_house(net)

    def ask_house(self, net):
        net.send(asking_letter(self.client, self.number, self.path, self.up_to))

    def goes_up_to(self, turn):
        return self.up_to is not None and self.up_to >= turn

    def hear_news(self, letter):
        if letter.number != self.number:
            return NO_USE
        if self.up_to is None:
            return LACKS_SOMETHING
        if self.goes_up_to(letter.turn):
            return NO_USE
        if self.up_to < letter.behind:
            return LACKS_SOMETHING
        self.go_on(letter.turn, letter.events)
        return COPY_GOES_ON

    def go_on(self, turn, events):
        self.up_to = turn
        self.events_had += len(events)
        for event in events:
            if event.what == GONE:
                self.copied.pop(event.path, None)
            else:
                self.copied[event.path] = event.value

    def see_picture(self, letter):
        if letter.number != self.number or self.goes_up_to(letter.turn):
            return NO_USE
        self.up_to = letter.turn
        self.since = letter.turn
        # A dict of its own: the letter may lie on, and the copy goes on without it.
        self.copied = {}
        for path, value in letter.entries:
            self.copied[path] = value
        self.events_had = 0
        self.pictures_had += 1
        return HAS_PICTURE

    def entries_in_order(self):
        return [(path, self.copied[path]) for path in sorted(self.copied)]
