"""The order in which the first one of several subsets, or orders, is chosen."""

import unittest
from itertools import permutations

from loginstacks.subsets import all_orders, all_subsets
from tests import plain
from tests.support import Case


class SubsetsTest(Case):
    def test_shortest_first_then_in_tuple_order(self):
        self.same(all_subsets([]), [()])
        self.same(all_subsets(("a", "b", "c")),
                  [(), ("a",), ("b",), ("c",), ("a", "b"), ("a", "c"), ("b", "c"), ("a", "b", "c")])

    def test_beside_a_plain_search(self):
        for many in range(8):
            self.same(all_subsets(list(range(many))), plain.tuples_of(range(many)))


class OrdersTest(Case):
    def test_in_tuple_order(self):
        self.same(all_orders([]), [()])
        self.same(all_orders(("a", "b", "c")), [("a", "b", "c"), ("a", "c", "b"), ("b", "a", "c"), ("b", "c", "a"),
                                                ("c", "a", "b"), ("c", "b", "a")])

    def test_beside_a_plain_search(self):
        for many in range(7):
            self.same(all_orders(list(range(many))), sorted(permutations(range(many))))


if __name__ == "__main__":
    unittest.main()
