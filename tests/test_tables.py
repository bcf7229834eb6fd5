"""routing_table, users_of and announced_prefixes."""

import unittest

from tests.helper import (
    LARGEST, ExchangeCase, add_member, announce, announced_prefixes, exchange_of, full_exchange, reset, routing_table,
    run, set_export, set_import, set_preference, users_of, withdraw,
)


class RoutingTable(ExchangeCase):
    def setUp(self):
        self.calls = exchange_of(3) + [announce(0, 0, 1, [100]), announce(1, 0, 2, [200, 900]),
                                       announce(1, 0, 1, [200, 900])]

    def test_best_route_of_each_prefix(self):
        found = run(self.calls + [routing_table(member) for member in range(3)])
        self.assertEqual(found[-3:], [[2, 0, 1, 1, 0, 2, 1], [1, 0, 1, 0], [2, 0, 1, 0, 0, 2, 1]])

    def test_empty(self):
        self.assert_last(exchange_of(2) + [routing_table(1)], [0])
        self.assert_last(exchange_of(2) + [announce(1, 0, 0, [200]), routing_table(1)], [0])

    def test_prefix_order_is_by_address_then_by_length(self):
        prefixes = [(0, 0), (0, 1), (0, 8), (1, 8), (64, 2), (64, 3), (96, 3), (128, 1), (128, 8), (255, 8)]
        expected = [10] + [field for address, length in prefixes for field in [address, length, 0]]
        for order in [prefixes, prefixes[::-1], prefixes[5:] + prefixes[:5], prefixes[1::2] + prefixes[::2]]:
            calls = exchange_of(2) + [announce(0, address, length, [100]) for address, length in order]
            self.assert_last(calls + [routing_table(1)], expected)

    def test_prefix_of_length_0(self):
        self.assert_last(exchange_of(2) + [announce(0, 0, 0, [100]), routing_table(1)], [1, 0, 0, 0])

    def test_twenty_different_prefixes(self):
        calls = exchange_of(2) + [announce(0, address, 8, [100]) for address in range(20)]
        expected = [20] + [field for address in range(20) for field in [address, 8, 0]]
        self.assert_last(calls + [routing_table(1)], expected)
        self.assert_last(calls + [routing_table(0)], [0])

    def test_every_policy_shows(self):
        self.assert_last(self.calls + [set_preference(2, 1, 6), routing_table(2)], [2, 0, 1, 1, 0, 2, 1])
        self.assert_last(self.calls + [set_export(1, 2, 1), routing_table(2)], [1, 0, 1, 0])
        self.assert_last(self.calls + [set_import(2, 0, 1), routing_table(2)], [2, 0, 1, 1, 0, 2, 1])
        self.assert_last(self.calls + [announce(1, 0, 2, [200, 300]), routing_table(2)], [1, 0, 1, 0])

    def test_denied_by_both(self):
        calls = self.calls + [set_export(1, 2, 1), set_import(2, 1, 1)]
        self.assert_last(calls + [routing_table(2)], [1, 0, 1, 0])
        self.assert_last(calls + [set_export(1, 2, 0), routing_table(2)], [1, 0, 1, 0])
        self.assert_last(calls + [set_import(2, 1, 0), routing_table(2)], [1, 0, 1, 0])
        both = [set_import(2, 1, 0), set_export(1, 2, 0)]
        self.assert_last(calls + both + [routing_table(2)], [2, 0, 1, 0, 0, 2, 1])

    def test_equal_preferences_and_path_lengths(self):
        calls = [reset()] + [add_member(asn) for asn in [30, 10, 20]]
        calls.extend([announce(0, 0, 0, [30, 7]), announce(1, 0, 0, [10, 9]), announce(2, 0, 0, [20, 8])])
        found = run(calls + [routing_table(member) for member in range(3)])
        self.assertEqual(found[-3:], [[1, 0, 0, 1], [1, 0, 0, 2], [1, 0, 0, 1]])

    def test_no_such_member(self):
        for member in [3, 6, LARGEST]:
            self.assert_refused(self.calls, routing_table(member), -2)
        self.assert_refused([reset()], routing_table(0), -2)

    def test_changes_nothing(self):
        self.assert_unchanged(self.calls, routing_table(2))
        self.assert_unchanged(full_exchange(), routing_table(0))


class UsersOf(ExchangeCase):
    def setUp(self):
        self.calls = exchange_of(4) + [announce(2, 0, 1, [300]), announce(0, 0, 1, [100])]

    def test_members_that_use_a_route(self):
        found = run(self.calls + [users_of(member) for member in range(4)])
        self.assertEqual(found[-4:], [[3, 1, 2, 3], [0], [1, 0], [0]])

    def test_one_route_is_enough(self):
        calls = self.calls + [announce(2, 128, 1, [300]), set_import(1, 2, 1)]
        found = run(calls + [users_of(0), users_of(2)])
        self.assertEqual(found[-2:], [[3, 1, 2, 3], [2, 0, 3]])

    def test_each_user_once(self):
        calls = exchange_of(2) + [announce(1, 0, 0, [200]), announce(1, 0, 1, [200]), announce(1, 0, 2, [200])]
        self.assert_last(calls + [users_of(1)], [1, 0])

    def test_eligible_is_not_enough(self):
        self.assert_last(self.calls + [announce(1, 0, 1, [200, 7]), users_of(1)], [0])
        self.assert_last(self.calls + [announce(1, 0, 1, [200, 7]), set_preference(3, 1, 6), users_of(1)], [1, 3])

    def test_the_table_counts_and_not_a_lookup(self):
        calls = exchange_of(3) + [announce(0, 0, 1, [100]), announce(1, 0, 2, [200]), announce(1, 64, 2, [200])]
        self.assert_last(calls + [users_of(0)], [2, 1, 2])

    def test_no_users(self):
        self.assert_last(self.calls + [withdraw(0, 0, 1), users_of(0)], [0])
        self.assert_last(exchange_of(1) + [announce(0, 0, 0, [100]), users_of(0)], [0])

    def test_no_such_member(self):
        for member in [4, 6, LARGEST]:
            self.assert_refused(self.calls, users_of(member), -2)
        self.assert_refused([reset()], users_of(0), -2)

    def test_changes_nothing(self):
        self.assert_unchanged(self.calls, users_of(0))
        self.assert_unchanged(full_exchange(), users_of(3))


class AnnouncedPrefixes(ExchangeCase):
    def test_none(self):
        self.assert_last([reset(), announced_prefixes()], [0])
        self.assert_last(exchange_of(6) + [announced_prefixes()], [0])

    def test_each_prefix_once_in_prefix_order(self):
        calls = exchange_of(3) + [announce(0, 128, 1, [100]), announce(1, 0, 2, [200]), announce(2, 128, 1, [300]),
                                  announce(2, 0, 1, [300]), announce(0, 0, 2, [100]), announce(1, 0, 0, [200])]
        self.assert_last(calls + [announced_prefixes()], [4, 0, 0, 0, 1, 0, 2, 128, 1])

    def test_address_before_length(self):
        calls = exchange_of(1) + [announce(0, 128, 1, [100]), announce(0, 64, 8, [100]), announce(0, 64, 3, [100])]
        self.assert_last(calls + [announced_prefixes()], [3, 64, 3, 64, 8, 128, 1])

    def test_routes_that_nobody_may_use_count(self):
        self.assert_last(exchange_of(1) + [announce(0, 0, 0, [100]), announced_prefixes()], [1, 0, 0])
        calls = exchange_of(2) + [announce(0, 0, 8, [100]), set_export(0, 1, 1)]
        self.assert_last(calls + [announced_prefixes()], [1, 0, 8])

    def test_withdrawn_by_one_and_by_all(self):
        calls = exchange_of(2) + [announce(0, 0, 1, [100]), announce(1, 0, 1, [200]), withdraw(0, 0, 1)]
        self.assert_last(calls + [announced_prefixes()], [1, 0, 1])
        self.assert_last(calls + [withdraw(1, 0, 1), announced_prefixes()], [0])

    def test_announced_again(self):
        calls = exchange_of(1) + [announce(0, 0, 1, [100]), announce(0, 0, 1, [100, 7])]
        self.assert_last(calls + [announced_prefixes()], [1, 0, 1])

    def test_twenty_different_prefixes(self):
        calls = exchange_of(2) + [announce(0, address, 8, [100]) for address in range(20)]
        expected = [20] + [field for address in range(20) for field in [address, 8]]
        self.assert_last(calls + [announced_prefixes()], expected)
        self.assert_last(full_exchange() + [announced_prefixes()], [5, 0, 3, 32, 3, 64, 3, 96, 3, 128, 3])

    def test_changes_nothing(self):
        self.assert_unchanged(full_exchange(), announced_prefixes())
        self.assert_unchanged([reset()], announced_prefixes())


if __name__ == "__main__":
    unittest.main()
