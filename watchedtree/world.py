"""A world, and what each call on it answers."""

from watchedtree.clients import Client
from watchedtree.house import House
from watchedtree.letters import Net
from watchedtree.orders import Order, are_orders, do_together
from watchedtree.paths import is_path, is_path_or_empty

CLIENTS = 3
LATEST = 9999


class World:
    def __init__(self, life):
        self.net = Net()
        self.house = House(life, self.net)
        self.clients = [Client(client) for client in range(CLIENTS)]


# Each call takes the world, its whole numbers and its lists, so that one table can hold them all.


def answer_open(world, numbers, lists):
    return [world.house.start_session()]


def answer_close(world, numbers, lists):
    house = world.house
    if not house.lasts(numbers[0]):
        return [-1]
    house.end_session(numbers[0])
    return [house.last_turn()]


def answer_touch(world, numbers, lists):
    house = world.house
    if not house.lasts(numbers[0]):
        return [-1]
    house.see_session(numbers[0])
    return [0]


def answer_tick(world, numbers, lists):
    if numbers[0] > LATEST:
        return [-1]
    world.house.pass_time(numbers[0])
    return [world.house.last_turn()]


def answer_together(world, numbers, lists):
    orders = [Order(row) for row in lists]
    if not are_orders(orders):
        return [-1]
    return do_together(world.house, orders)


def answer_get(world, numbers, lists):
    path = tuple(lists[0])
    if not is_path(path):
        return [-1]
    if path not in world.house.nodes:
        return [-2]
    node = world.house.nodes[path]
    return [node.value, node.version, node.made, node.changed, node.held]


def answer_list(world, numbers, lists):
    top = tuple(lists[0])
    nodes = world.house.nodes
    if not is_path_or_empty(top):
        return [-1]
    if len(top) > 0 and top not in nodes:
        return [-2]
    row = sorted([path[-1] for path in nodes if path[:-1] == top])
    return [len(row)] + row


def answer_watch(world, numbers, lists):
    path = tuple(lists[0])
    if numbers[0] >= CLIENTS or not is_path_or_empty(path):
        return [-1]
    client = world.clients[numbers[0]]
    client.start_watch(path, world.net)
    return [client.number]


CALLS = {
    1: answer_open,
    2: answer_close,
    3: answer_touch,
    4: answer_tick,
    5: answer_together,
    6: answer_get,
    7: answer_list,
    8: answer_watch,
}


def answer_call(world, call, numbers, lists):
    if call not in CALLS:
        raise NotImplementedError(f"call {call} is not built yet")
    answer = CALLS[call]
    return answer(world, numbers, lists)
