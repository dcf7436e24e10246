"""Clients: each keeps a copy of a part of the tree."""

from watchedtree.letters import asking_letter


class Client:
    def __init__(self, client):
        self.client = client
        self.number = 0
        self.path = ()
        self.forget_copy()

    def forget_copy(self):
        # None stands for no copy: a copy may well be there and have no entries.
        self.up_to = None
        self.since = 0
        self.entries = {}
        self.events_had = 0
        self.pictures_had = 0

    def start_watch(self, path, net):
        self.number += 1
        self.path = path
        self.forget_copy()
        self.ask_house(net)

    def ask_house(self, net):
        net.send(asking_letter(self.client, self.number, self.path, self.up_to))
