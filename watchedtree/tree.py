"""The one function that the package is used by."""

from watchedtree.world import World, answer_call

BEGIN = 0
LONGEST_LIFE = 999


class Reader:
    def __init__(self, calls):
        self.calls = calls
        self.place = 0

    def has_more(self):
        return self.place < len(self.calls)

    def read_number(self):
        number = self.calls[self.place]
        self.place += 1
        return number

    def read_row(self):
        row = []
        for place in range(self.read_number()):
            row.append(self.read_number())
        return row

    def read_rows(self):
        rows = []
        for place in range(self.read_number()):
            rows.append(self.read_row())
        return rows


class Line:
    def __init__(self):
        self.world = None

    def begin_world(self, life):
        if life > LONGEST_LIFE:
            return [-1]
        self.world = World(life)
        return [0]

    def answer(self, call, numbers, lists):
        if call == BEGIN:
            return self.begin_world(numbers[0])
        if self.world is None:
            return [-9]
        return answer_call(self.world, call, numbers, lists)


def answers(calls):
    reader = Reader(calls)
    line = Line()
    told = []
    while reader.has_more():
        call = reader.read_number()
        numbers = reader.read_row()
        lists = reader.read_rows()
        answer = line.answer(call, numbers, lists)
        told.append(len(answer))
        told.extend(answer)
    return told
