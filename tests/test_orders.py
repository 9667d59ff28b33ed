from itertools import permutations, product

from stirround.errors import NoOrders, NoPlace
from stirround.orders import bears, number_of, orders_of
from tests.model import RefusalCase, drawn

COUNTS = [1, 2, 8, 128, 32768, 2147483648]
NONE_AT_ALL = [
    [], [[0]] * 7, [[]], [[1]], [[0, 0]], [[0, 1]], [[-1]], [[0], [0]], [[0], [0, 0]], [[0], [1, 2]], [[0], [-1, 0]],
    [[0], []],
    [[0], [0, 1, 2]], [[0], [0, 1], [0, 1, 2]], [[0], [0, 1], [0, 1, 2, 2]], [[0], [0, 1], [0, 1, 2, 4]],
    [[0], [0, 1], [0, 1, 2, -1]], [[0], [0, 1], [0, 1, 2, 3, 4]], [[0], [0, 1], [0, 1, 2, 10 ** 59]], [[10 ** 59]],
    [[-(10 ** 59)]],
    [[0], [0, 1], []], [[], [0, 1]], [[0, 1], [0]], [[0], [0, 1], [3, 2, 1, 0], [0, 1, 2, 3]], [[0]] * 2, [[0]] * 10,
    [[]] * 10,
    [list(range(2 ** k)) for k in range(7)],
]


def slow_bears(orders):
    """Point 31 by sets."""
    for k in range(len(orders) - 1):
        for n in range(2 ** k + 1):
            doubled = set(orders[k][:n]) | {shelf + 2 ** k for shelf in orders[k][:n]}
            if set(orders[k + 1][:2 * n]) != doubled:
                one = min(shelf for shelf in doubled if orders[k + 1].index(shelf) >= 2 * n)
                other = min(shelf for shelf in range(2 ** (k + 1)) if orders[k + 1].index(shelf) < 2 * n
                            and shelf not in doubled)
                return ("fails", k, n, one, other)
    return ("bears",)


def slow_orders(K, number):
    """From the bits of the number, one by one."""
    bits = [int(bit) for bit in format(number, "b").rjust(2 ** K - 1, "0")[::-1]]
    orders = [[0]]
    for k in range(K):
        order = []
        for shelf in orders[k]:
            order += [shelf, shelf + 2 ** k][::-1 if bits.pop(0) else 1]
        orders.append(order)
    return orders


def some_numbers(K):
    if K <= 3:
        return range(COUNTS[K])
    draw = drawn(K)
    return [0, 1, 2, COUNTS[K] - 2, COUNTS[K] - 1] + [draw.randrange(COUNTS[K]) for turn in range(60)]


class BearsTest(RefusalCase):
    def assert_bears(self, orders):
        kept = [list(order) for order in orders]
        told = bears(orders)
        self.assertIs(type(told), tuple)
        self.assertEqual(told, slow_bears(orders), orders)
        self.assertEqual(bears(orders), told)
        self.assertEqual(orders, kept)
        return told

    def test_those_that_bear(self):
        for K in range(6):
            for number in some_numbers(K):
                self.assertEqual(self.assert_bears(slow_orders(K, number)), ("bears",))

    def test_short_ones(self):
        self.assertEqual(self.assert_bears([[0]]), ("bears",))
        self.assertEqual(self.assert_bears([[0], [0, 1]]), ("bears",))
        self.assertEqual(self.assert_bears([[0], [1, 0]]), ("bears",))

    def test_all_orders_of_four_shelves(self):
        told = [self.assert_bears([[0], list(two), list(four)]) for two,
                four in product(permutations(range(2)), permutations(range(4)))]
        self.assertEqual(told.count(("bears",)), 8)
        self.assertEqual(len(set(told)), 9)

    def test_told_failures(self):
        self.assertEqual(self.assert_bears([[0], [0, 1], [0, 1, 2, 3]]), ("fails", 1, 1, 2, 1))
        self.assertEqual(self.assert_bears([[0], [0, 1], [1, 3, 0, 2]]), ("fails", 1, 1, 0, 1))
        self.assertEqual(self.assert_bears([[0], [1, 0], [0, 2, 1, 3]]), ("fails", 1, 1, 1, 0))
        self.assertEqual(self.assert_bears([[0], [0, 1], [0, 2, 1, 3], [0, 4, 2, 6, 1, 3, 5, 7]]),
                         ("fails", 2, 3, 5, 3))

    def test_plain_orders_fail(self):
        for K in range(2, 6):
            self.assertEqual(self.assert_bears([list(range(2 ** k)) for k in range(K + 1)]), ("fails", 1, 1, 2, 1))

    def test_all_orders_of_eight_shelves_behind_four(self):
        for place, eight in enumerate(permutations(range(8))):
            if place % 23 == 0:
                self.assert_bears([[0], [1, 0], [3, 1, 0, 2], list(eight)])

    def test_two_shelves_swapped(self):
        """Each k and n is told by some swap."""
        for K in range(2, 6):
            seen = set()
            for k in range(2, K + 1):
                for one, other in product(range(2 ** k), repeat=2):
                    orders = slow_orders(K, COUNTS[K] // 3)
                    orders[k][one], orders[k][other] = orders[k][other], orders[k][one]
                    seen.add(self.assert_bears(orders)[:3])
            self.assertLessEqual({("fails", k, n) for k in range(1, K) for n in range(1, 2 ** k)}, seen)

    def test_the_least_of_several_failures(self):
        for seed in range(100):
            draw = drawn(seed)
            orders = slow_orders(5, draw.randrange(COUNTS[5]))
            for turn in range(draw.randint(1, 4)):
                draw.shuffle(orders[draw.randint(2, 5)])
            self.assert_bears(orders)

    def test_no_orders(self):
        for orders in NONE_AT_ALL:
            kept = [list(order) for order in orders]
            self.assert_refused(NoOrders, None, bears, orders)
            self.assertEqual(orders, kept)

    def test_no_orders_at_any_k(self):
        for K in range(6):
            for k in range(K + 1):
                for fault in ("twice", "left out", "below", "too great", "more"):
                    orders = slow_orders(K, COUNTS[K] // 2)
                    if fault == "left out":
                        orders[k].pop()
                    elif fault == "more":
                        orders[k].append(2 ** k)
                    else:
                        orders[k][0] = {"twice": orders[k][-1] if k else 1, "below": -1, "too great": 2 ** k}[fault]
                    self.assert_refused(NoOrders, None, bears, orders)
                    self.assert_refused(NoOrders, None, number_of, orders)


class NumbersTest(RefusalCase):
    def test_there_and_back(self):
        for K in range(6):
            for number in some_numbers(K):
                orders = orders_of(K, number)
                self.assertEqual(orders, slow_orders(K, number))
                self.assertEqual({type(some) for some in [orders] + orders}, {list})
                kept = [list(order) for order in orders]
                self.assertEqual(number_of(orders), number)
                self.assertIs(type(number_of(orders)), int)
                self.assertEqual(orders, kept)
                self.assertEqual(bears(orders), ("bears",))

    def test_all_are_unlike(self):
        for K in range(4):
            self.assertEqual(len({str(orders_of(K, number)) for number in range(COUNTS[K])}), COUNTS[K])

    def test_all_that_bear_have_one(self):
        told = []
        for two, four in product(permutations(range(2)), permutations(range(4))):
            orders = [[0], list(two), list(four)]
            if slow_bears(orders) == ("bears",):
                told.append(number_of(orders))
            else:
                self.assert_refused(NoOrders, None, number_of, orders)
        self.assertEqual(sorted(told), list(range(8)))

    def test_the_first_and_the_last(self):
        self.assertEqual(orders_of(2, 0), [[0], [0, 1], [0, 2, 1, 3]])
        self.assertEqual(orders_of(2, 7), [[0], [1, 0], [3, 1, 2, 0]])
        self.assertEqual(orders_of(2, 1), [[0], [1, 0], [1, 3, 0, 2]])
        self.assertEqual(orders_of(2, 2), [[0], [0, 1], [2, 0, 1, 3]])
        self.assertEqual(orders_of(2, 4), [[0], [0, 1], [0, 2, 3, 1]])
        for K in range(6):
            first, last = orders_of(K, 0)[K], orders_of(K, COUNTS[K] - 1)[K]
            self.assertEqual(first, [int(format(n, "b").rjust(K, "0")[::-1], 2) for n in range(2 ** K)])
            self.assertEqual(last, first[::-1])

    def test_no_place(self):
        for K in range(6):
            for number in (-1, -2, COUNTS[K], COUNTS[K] + 1, 10 ** 59, -(10 ** 59)):
                self.assert_refused(NoPlace, number, orders_of, K, number)

    def test_no_orders(self):
        for orders in NONE_AT_ALL:
            kept = [list(order) for order in orders]
            self.assert_refused(NoOrders, None, number_of, orders)
            self.assertEqual(orders, kept)

    def test_orders_that_fail(self):
        for K in range(2, 6):
            for k in range(2, K + 1):
                orders = slow_orders(K, 1)
                orders[k][0], orders[k][-1] = orders[k][-1], orders[k][0]
                self.assertEqual(slow_bears(orders)[0], "fails")
                self.assert_refused(NoOrders, None, number_of, orders)

    def test_new_each_time(self):
        for K in range(6):
            orders = orders_of(K, COUNTS[K] // 2)
            for order in orders:
                order.append("more")
            orders.clear()
            self.assertEqual(orders_of(K, COUNTS[K] // 2), slow_orders(K, COUNTS[K] // 2))
