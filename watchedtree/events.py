"""Events: what happened to one node in a turn."""

GONE = 0
MADE = 1
CHANGED = 2


class Event:
    # An event is never altered, so turns and letters may share it.
    def __init__(self, what, value, path):
        self.what = what
        self.value = value
        self.path = path
