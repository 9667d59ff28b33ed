"""Orders of shelves: which of them bear doubling, where others fail, and the numbers of those that do."""

from stirround.errors import NoOrders, NoPlace
from stirround.shelves import power_of_two

MOST_ORDERS = 6


def bears(orders):
    check_orders(orders)
    for k in range(len(orders) - 1):
        for n in range(len(orders[k]) + 1):
            failure = failure_at(orders, k, n)
            if failure is not None:
                return failure
    return ("bears",)


def orders_of(K, number):
    if not 0 <= number < power_of_two(power_of_two(K) - 1):
        raise NoPlace(number)
    orders = [[0]]
    for k in range(K):
        order = []
        for shelf in orders[k]:
            order.extend(two_of(shelf, len(orders[k]), number % 2))
            number = number // 2
        orders.append(order)
    return orders


def number_of(orders):
    if bears(orders) != ("bears",):
        raise NoOrders("orders that do not bear doubling have no number")
    number = 0
    bit = 1
    for k in range(len(orders) - 1):
        for place, shelf in enumerate(orders[k]):
            if orders[k + 1][2 * place] != shelf:
                number += bit
            bit = 2 * bit
    return number


def check_orders(orders):
    if not 1 <= len(orders) <= MOST_ORDERS:
        raise NoOrders("no order, or more than there can be")
    for k, order in enumerate(orders):
        if sorted(order) != list(range(power_of_two(k))):
            raise NoOrders("an order that does not have each of its shelves once")


# Both lists are of one length, so where they are unlike each has one that the other has not.
def failure_at(orders, k, n):
    doubled = orders[k][:n] + [shelf + len(orders[k]) for shelf in orders[k][:n]]
    first = orders[k + 1][:2 * n]
    missed = sorted(set(doubled) - set(first))
    if missed == []:
        return None
    other = sorted(set(first) - set(doubled))
    return ("fails", k, n, missed[0], other[0])


def two_of(shelf, shelves, bit):
    if bit == 0:
        return [shelf, shelf + shelves]
    return [shelf + shelves, shelf]
