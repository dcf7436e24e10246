"""Orders: whether each can be done, and doing them all or none."""

from watchedtree.events import CHANGED, GONE, MADE, Event
from watchedtree.house import Node
from watchedtree.paths import is_below, is_path

MAKE = 0
SET = 1
DROP = 2
CHECK = 3

CAN_BE_DONE = 0
NO_NODE = 1
NODE_THERE = 2
NOTHING_ABOVE = 3
HELD_ABOVE = 4
NODE_BELOW = 5
OTHER_VERSION = 6
NO_SESSION = 7
NO_ROOM = 8

MOST_NODES = 20
MOST_ORDERS = 6
MOST_VALUE = 99


class Order:
    def __init__(self, numbers):
        self.kind = numbers[0]
        self.version = numbers[1]
        self.value = numbers[2]
        self.session = numbers[3]
        self.path = tuple(numbers[4:])


def is_order(order):
    return order.kind <= CHECK and order.value <= MOST_VALUE and is_path(order.path)


def are_orders(orders):
    return 1 <= len(orders) <= MOST_ORDERS and all([is_order(order) for order in orders])


def why_not(order, nodes, house):
    if order.kind == MAKE:
        return why_not_make(order, nodes, house)
    if order.kind == CHECK:
        return why_not_check(order, nodes)
    return why_not_set_or_drop(order, nodes)


def why_not_make(order, nodes, house):
    if order.path in nodes:
        return NODE_THERE
    if order.session != 0 and not house.lasts(order.session):
        return NO_SESSION
    if len(nodes) >= MOST_NODES:
        return NO_ROOM
    return why_not_under(order.path[:-1], nodes)


def why_not_under(above, nodes):
    # Paths of one number have nothing above them.
    if len(above) == 0:
        return CAN_BE_DONE
    if above not in nodes:
        return NOTHING_ABOVE
    if nodes[above].held != 0:
        return HELD_ABOVE
    return CAN_BE_DONE


def why_not_set_or_drop(order, nodes):
    if order.path not in nodes:
        return NO_NODE
    if order.version != 0 and order.version != nodes[order.path].version:
        return OTHER_VERSION
    if order.kind == DROP and has_others_below(order.path, nodes):
        return NODE_BELOW
    return CAN_BE_DONE


def has_others_below(top, nodes):
    return any([path != top and is_below(path, top) for path in nodes])


def why_not_check(order, nodes):
    if order.version == 0:
        return NODE_THERE if order.path in nodes else CAN_BE_DONE
    if order.path not in nodes:
        return NO_NODE
    if order.version != nodes[order.path].version:
        return OTHER_VERSION
    return CAN_BE_DONE


def do_order(order, nodes, turn):
    path = order.path
    if order.kind == MAKE:
        nodes[path] = Node(order.value, 1, turn, turn, order.session)
        return [Event(MADE, order.value, path)]
    if order.kind == SET:
        old = nodes[path]
        nodes[path] = Node(order.value, old.version + 1, old.made, turn, old.held)
        return [Event(CHANGED, order.value, path)]
    if order.kind == DROP:
        nodes.pop(path)
        return [Event(GONE, 0, path)]
    return []


def copy_nodes(nodes):
    copied = {}
    for path in nodes:
        copied[path] = nodes[path]
    return copied


def do_together(house, orders):
    # A copy is worked on, so that at an order that can't be done the house is as it was.
    nodes = copy_nodes(house.nodes)
    events = []
    for place, order in enumerate(orders):
        reason = why_not(order, nodes, house)
        if reason != CAN_BE_DONE:
            return [-2, place, reason]
        events.extend(do_order(order, nodes, house.last_turn() + 1))
    house.nodes = nodes
    house.end_turn(events)
    return [house.last_turn()]
