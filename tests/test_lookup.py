"""lookup and reachable_addresses."""

import unittest

from tests.helper import (
    LARGEST, ExchangeCase, announce, exchange_of, full_exchange, lookup, reachable_addresses, reset, run,
    set_export, set_import, set_preference, withdraw,
)


class Lookup(ExchangeCase):
    def setUp(self):
        self.calls = exchange_of(3) + [announce(0, 0, 1, [100]), announce(1, 64, 2, [200]),
                                       announce(1, 96, 8, [200, 7])]

    def found(self, member, destinations):
        return run(self.calls + [lookup(member, destination) for destination in destinations])[len(self.calls):]

    def test_longest_prefix_wins(self):
        self.assertEqual(self.found(2, [0, 63]), [[0, 0, 1]] * 2)
        self.assertEqual(self.found(2, [64, 95, 97, 127]), [[1, 64, 2]] * 4)
        self.assertEqual(self.found(2, [96]), [[1, 96, 8]])

    def test_address_that_no_route_contains(self):
        self.assertEqual(self.found(2, [128, 129, 255]), [[-33]] * 3)
        self.assertEqual(self.found(0, [63, 64, 128]), [[-33], [1, 64, 2], [-33]])
        self.assert_last(exchange_of(1) + [lookup(0, 0)], [-33])

    def test_longest_wins_whatever_the_preference(self):
        self.calls.extend([set_preference(2, 0, 9), set_preference(2, 1, 0)])
        self.assertEqual(self.found(2, [10, 70, 96]), [[0, 0, 1], [1, 64, 2], [1, 96, 8]])

    def test_order_of_announcing_does_not_count(self):
        prefixes = [(0, 0), (0, 1), (64, 2), (64, 3), (64, 8)]
        for order in [prefixes, prefixes[::-1], prefixes[2:] + prefixes[:2]]:
            self.calls = exchange_of(2) + [announce(0, address, length, [100]) for address, length in order]
            self.assertEqual(self.found(1, [64, 65, 96, 0, 128]),
                             [[0, 64, 8], [0, 64, 3], [0, 64, 2], [0, 0, 1], [0, 0, 0]])

    def test_shorter_prefix_where_the_longer_may_not_be_used(self):
        self.calls.append(set_export(1, 2, 1))
        self.assertEqual(self.found(2, [64, 96]), [[0, 0, 1]] * 2)
        self.calls.append(set_import(2, 0, 1))
        self.assertEqual(self.found(2, [64, 96]), [[-33]] * 2)

    def test_announcer_is_that_of_the_best_route(self):
        self.calls.append(announce(2, 0, 1, [300]))
        self.assertEqual(self.found(1, [5]), [[0, 0, 1]])
        self.calls.append(set_preference(1, 2, 6))
        self.assertEqual(self.found(1, [5]), [[2, 0, 1]])

    def test_prefix_of_length_0_contains_every_address(self):
        self.calls = exchange_of(2) + [announce(0, 0, 0, [100])]
        self.assertEqual(self.found(1, range(256)), [[0, 0, 0]] * 256)

    def test_prefix_of_length_8_contains_one(self):
        for address in [0, 1, 127, 128, 255]:
            self.calls = exchange_of(2) + [announce(0, address, 8, [100])]
            expected = [[0, address, 8] if destination == address else [-33] for destination in range(256)]
            self.assertEqual(self.found(1, range(256)), expected)

    def test_first_and_last_address_of_every_length(self):
        for length in range(1, 9):
            size = 2 ** (8 - length)
            for address in [0, 128, 256 - size]:
                self.calls = exchange_of(2) + [announce(0, address, length, [100])]
                self.assertEqual(self.found(1, [address, address + size - 1]), [[0, address, length]] * 2)
                beside = [destination for destination in [address - 1, address + size] if 0 <= destination < 256]
                self.assertEqual(self.found(1, beside), [[-33]] * len(beside))

    def test_no_such_member(self):
        for member in [3, 6, LARGEST]:
            self.assert_refused(self.calls, lookup(member, 0), -2)
        self.assert_refused([reset()], lookup(0, 0), -2)

    def test_no_such_address(self):
        for destination in [256, 257, 512, LARGEST]:
            self.assert_refused(self.calls, lookup(2, destination), -22)
        self.assert_refused(exchange_of(2) + [announce(0, 0, 0, [100])], lookup(1, 256), -22)

    def test_order_of_errors(self):
        self.assert_refused(self.calls, lookup(3, 256), -2)
        self.assert_refused(self.calls, lookup(3, 255), -2)
        self.assert_refused(exchange_of(1), lookup(0, 256), -22)

    def test_changes_nothing(self):
        self.assert_unchanged(self.calls, lookup(2, 96))
        self.assert_unchanged(full_exchange(), lookup(0, 0))
        self.assert_refused(self.calls, lookup(2, 128), -33)


class ReachableAddresses(ExchangeCase):
    def test_none(self):
        self.assert_last(exchange_of(1) + [reachable_addresses(0)], [0])
        self.assert_last(exchange_of(1) + [announce(0, 0, 0, [100]), reachable_addresses(0)], [0])

    def test_every_length(self):
        for length in range(9):
            calls = exchange_of(2) + [announce(0, 256 - 2 ** (8 - length), length, [100])]
            self.assert_last(calls + [reachable_addresses(1)], [2 ** (8 - length)])

    def test_one_prefix_within_another_counts_once(self):
        calls = exchange_of(3) + [announce(0, 64, 2, [100]), announce(1, 64, 3, [200]), announce(1, 64, 8, [200])]
        self.assert_last(calls + [reachable_addresses(2)], [64])
        self.assert_last(calls + [reachable_addresses(0)], [32])
        self.assert_last(calls + [announce(1, 0, 0, [200]), reachable_addresses(2)], [256])

    def test_prefixes_beside_each_other_add_up(self):
        calls = exchange_of(2) + [announce(0, 0, 1, [100]), announce(0, 128, 2, [100]), announce(0, 255, 8, [100])]
        self.assert_last(calls + [reachable_addresses(1)], [193])

    def test_same_prefix_of_two_members_counts_once(self):
        calls = exchange_of(3) + [announce(0, 0, 1, [100]), announce(1, 0, 1, [200])]
        self.assert_last(calls + [reachable_addresses(2)], [128])

    def test_only_routes_that_may_be_used(self):
        calls = exchange_of(3) + [announce(0, 0, 1, [100]), announce(1, 128, 1, [200, 300])]
        self.assert_last(calls + [reachable_addresses(2)], [128])
        self.assert_last(calls + [set_export(0, 2, 1), reachable_addresses(2)], [0])
        self.assert_last(calls + [set_import(2, 0, 1), reachable_addresses(2)], [0])
        self.assert_last(calls + [withdraw(0, 0, 1), reachable_addresses(2)], [0])

    def test_no_such_member(self):
        calls = exchange_of(3) + [announce(0, 0, 1, [100])]
        for member in [3, 6, LARGEST]:
            self.assert_refused(calls, reachable_addresses(member), -2)
        self.assert_refused([reset()], reachable_addresses(0), -2)

    def test_changes_nothing(self):
        self.assert_unchanged(exchange_of(2) + [announce(0, 0, 0, [100])], reachable_addresses(1))
        self.assert_unchanged(full_exchange(), reachable_addresses(2))


if __name__ == "__main__":
    unittest.main()
