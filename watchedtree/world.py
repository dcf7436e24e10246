"""A world, and what each call on it answers."""

from watchedtree.clients import Client
from watchedtree.house import House
from watchedtree.letters import ASKS, NEWS, Net
from watchedtree.orders import Order, are_orders, do_together
from watchedtree.paths import is_path, is_path_or_empty
from watchedtree.telling import tell_client, tell_events, tell_house, tell_letters, tell_row, tell_turn

CLIENTS = 3
LATEST = 9999


class World:
    def __init__(self, life):
        self.net = Net()
        self.house = House(life, self.net)
        self.clients = [Client(client) for client in range(CLIENTS)]

    def has_client(self, client):
        return client < CLIENTS

    def hand_over(self, letter):
        if letter.kind == ASKS:
            return self.house.hear_asking(letter)
        client = self.clients[letter.client]
        if letter.kind == NEWS:
            return client.hear_news(letter)
        return client.see_picture(letter)


# Each call takes the world, its whole numbers and its lists, so that one table can hold them all.


def answer_open(world, numbers, lists):
    return [world.house.start_session()]


def answer_close(world, numbers, lists):
    house = world.house
    if not house.lasts(numbers[0]):
        return [-1]
    house.end_session(numbers[0])
    return [house.last_turn()]


def answer_touch(world, numbers, lists):
    house = world.house
    if not house.lasts(numbers[0]):
        return [-1]
    house.see_session(numbers[0])
    return [0]


def answer_tick(world, numbers, lists):
    if numbers[0] > LATEST:
        return [-1]
    world.house.pass_time(numbers[0])
    return [world.house.last_turn()]


def answer_together(world, numbers, lists):
    orders = [Order(row) for row in lists]
    if not are_orders(orders):
        return [-1]
    return do_together(world.house, orders)


def answer_get(world, numbers, lists):
    path = tuple(lists[0])
    if not is_path(path):
        return [-1]
    if path not in world.house.nodes:
        return [-2]
    node = world.house.nodes[path]
    return [node.value, node.version, node.made, node.changed, node.held]


def answer_list(world, numbers, lists):
    top = tuple(lists[0])
    nodes = world.house.nodes
    if not is_path_or_empty(top):
        return [-1]
    if len(top) > 0 and top not in nodes:
        return [-2]
    return tell_row(sorted([path[-1] for path in nodes if path[:-1] == top]))


def answer_watch(world, numbers, lists):
    path = tuple(lists[0])
    if not world.has_client(numbers[0]) or not is_path_or_empty(path):
        return [-1]
    client = world.clients[numbers[0]]
    client.start_watch(path, world.net)
    return [client.number]


def answer_ask(world, numbers, lists):
    if not world.has_client(numbers[0]):
        return [-1]
    client = world.clients[numbers[0]]
    if not client.watches():
        return [-2]
    client.ask_house(world.net)
    return [tell_turn(client.up_to)]


def answer_compact(world, numbers, lists):
    house = world.house
    if numbers[0] > house.last_turn():
        return [-1]
    if numbers[0] < house.base:
        return [-2]
    house.base = numbers[0]
    return [0]


def answer_take(world, numbers, lists):
    if not world.net.has_letter(numbers[0]):
        return [-1]
    # Taken out first, so that what is sent when it's handed over finds its room.
    letter = world.net.take_out(numbers[0])
    return [world.hand_over(letter)]


def answer_keep(world, numbers, lists):
    if not world.net.has_letter(numbers[0]):
        return [-1]
    return [world.hand_over(world.net.letters[numbers[0]])]


def answer_lose(world, numbers, lists):
    if not world.net.has_letter(numbers[0]):
        return [-1]
    world.net.take_out(numbers[0])
    return [0]


def answer_letters(world, numbers, lists):
    return tell_letters(world.net.letters)


def answer_client(world, numbers, lists):
    if not world.has_client(numbers[0]):
        return [-1]
    return tell_client(world.clients[numbers[0]])


def answer_house(world, numbers, lists):
    return tell_house(world.house)


def answer_log(world, numbers, lists):
    house = world.house
    if not house.has_turn(numbers[0]):
        return [-1]
    if numbers[0] <= house.base:
        return [-2]
    return tell_events(house.events_of(numbers[0]))


CALLS = {
    1: answer_open,
    2: answer_close,
    3: answer_touch,
    4: answer_tick,
    5: answer_together,
    6: answer_get,
    7: answer_list,
    8: answer_watch,
    9: answer_ask,
    10: answer_compact,
    11: answer_take,
    12: answer_keep,
    13: answer_lose,
    14: answer_letters,
    15: answer_client,
    16: answer_house,
    17: answer_log,
}


def answer_call(world, call, numbers, lists):
    answer = CALLS[call]
    return answer(world, numbers, lists)
