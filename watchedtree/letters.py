"""Letters, and the net on which they lie."""

ASKS = 0
NEWS = 1
ROOM = 100


class Letter:
    # What a kind of letter doesn't tell stays as it is put here.
    def __init__(self, kind, client, number):
        self.kind = kind
        self.client = client
        self.number = number
        self.path = ()
        self.behind = None
        self.turn = 0
        self.events = []
        self.entries = []


class Net:
    def __init__(self):
        self.letters = []

    def send(self, letter):
        # What finds no room is lost, and whoever sent it doesn't hear of it.
        if len(self.letters) < ROOM:
            self.letters.append(letter)


def asking_letter(client, number, path, behind):
    letter = Letter(ASKS, client, number)
    letter.path = path
    letter.behind = behind
    return letter


def news_letter(client, number, behind, turn, events):
    letter = Letter(NEWS, client, number)
    letter.behind = behind
    letter.turn = turn
    letter.events = events
    return letter
