"""Letters, what can come of them, and the net on which they lie."""

ASKS = 0
NEWS = 1
PICTURE = 2

NO_USE = 0
NEWS_SENT = 1
PICTURE_SENT = 2
COPY_GOES_ON = 3
HAS_PICTURE = 4
LACKS_SOMETHING = 5

ROOM = 100


class Letter:
    # What a kind of letter doesn't tell stays as it is put here.
    # Once sent a letter is never altered: it may lie on and be handed over again.
    def __init__(self, kind, client, number):
        self.kind = kind
        self.client = client
        self.number = number
        self.path = ()
        self.behind = None
        self.turn = 0
        self.events = []
        self.entries = []


class Net:
    def __init__(self):
        self.letters = []

    def send(self, letter):
        # What finds no room is lost, and whoever sent it doesn't hear of it.
        if len(self.letters) < ROOM:
            self.letters.append(letter)

    def has_letter(self, place):
        return place < len(self.letters)

    def take_out(self, place):
        return self.letters.pop(place)


def asking_letter(client, number, path, behind):
    letter = Letter(ASKS, client, number)
    letter.path = path
    letter.behind = behind
    return letter


def news_letter(client, number, behind, turn, events):
    letter = Letter(NEWS, client, number)
    letter.behind = behind
    letter.turn = turn
    letter.events = events
    return letter


def picture_letter(client, number, turn, entries):
    letter = Letter(PICTURE, client, number)
    letter.turn = turn
    letter.entries = entries
    return letter
