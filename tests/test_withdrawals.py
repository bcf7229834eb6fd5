"""preview_withdraw and withdraw_all."""

import unittest

from tests.helper import (
    LARGEST, WRONG_PREFIXES, ExchangeCase, announce, announced_prefixes, exchange_of, full_exchange, member_policy,
    member_routes, preview_withdraw, probes, reset, routing_table, run, set_export, set_import, set_preference,
    withdraw, withdraw_all,
)


class PreviewWithdraw(ExchangeCase):
    def setUp(self):
        self.calls = exchange_of(4) + [announce(1, 0, 1, [200]), announce(0, 0, 1, [100]), announce(1, 0, 2, [200, 7]),
                                       announce(3, 0, 2, [400, 300])]

    def test_members_that_would_change(self):
        found = run(self.calls + [preview_withdraw(0, 0, 1), preview_withdraw(1, 0, 1), preview_withdraw(1, 0, 2)])
        self.assertEqual(found[-3:], [[3, 1, 2, 3], [1, 0], [3, 0, 2, 3]])

    def test_nobody_would_change(self):
        self.assert_last(self.calls + [set_export(1, 0, 1), preview_withdraw(1, 0, 1)], [0])
        self.assert_last(exchange_of(1) + [announce(0, 0, 0, [100]), preview_withdraw(0, 0, 0)], [0])

    def test_policies_count(self):
        self.assert_last(self.calls + [set_import(2, 0, 1), preview_withdraw(0, 0, 1)], [2, 1, 3])
        self.assert_last(self.calls + [set_preference(3, 1, 6), preview_withdraw(0, 0, 1)], [2, 1, 2])

    def test_withdraw_returns_the_same(self):
        for member, address, length in [(0, 0, 1), (1, 0, 1), (1, 0, 2), (3, 0, 2)]:
            found = run(self.calls + [preview_withdraw(member, address, length), withdraw(member, address, length)])
            self.assertEqual(found[-2], found[-1])

    def test_state_is_left_unchanged(self):
        for member, address, length in [(0, 0, 1), (1, 0, 1), (1, 0, 2), (3, 0, 2)]:
            self.assert_unchanged(self.calls, preview_withdraw(member, address, length))
        self.assert_unchanged(full_exchange(), preview_withdraw(3, 0, 3))

    def test_route_keeps_its_place_in_the_list(self):
        calls = exchange_of(2) + [announce(0, address, 2, [100]) for address in [64, 0, 128]]
        found = run(calls + [preview_withdraw(0, 64, 2), preview_withdraw(0, 0, 2), member_routes(0)])
        self.assertEqual(found[-1], [3, 64, 2, 1, 100, 0, 2, 1, 100, 128, 2, 1, 100])

    def test_full_list_stays_full(self):
        calls = full_exchange() + [preview_withdraw(0, 0, 3), announce(0, 0, 0, [100])]
        self.assert_last(calls, [-28])

    def test_no_such_member(self):
        for member in [4, 6, LARGEST]:
            self.assert_refused(self.calls, preview_withdraw(member, 0, 1), -2)
        self.assert_refused([reset()], preview_withdraw(0, 0, 1), -2)

    def test_wrong_prefix(self):
        for address, length in WRONG_PREFIXES:
            self.assert_refused(self.calls, preview_withdraw(0, address, length), -22)

    def test_no_such_route(self):
        for address, length in [(0, 0), (0, 2), (128, 1), (0, 8)]:
            self.assert_refused(self.calls, preview_withdraw(0, address, length), -6)
        self.assert_refused(self.calls, preview_withdraw(2, 0, 1), -6)

    def test_order_of_errors(self):
        self.assert_refused(self.calls, preview_withdraw(4, 1, 1), -2)
        self.assert_refused(self.calls, preview_withdraw(4, 0, 0), -2)
        self.assert_refused(self.calls, preview_withdraw(2, 1, 1), -22)


class WithdrawAll(ExchangeCase):
    def setUp(self):
        self.calls = exchange_of(4) + [announce(0, 0, 1, [100]), announce(1, 0, 1, [200]),
                                       announce(0, 128, 1, [100, 300]), announce(2, 64, 2, [300])]

    def test_users_of_any_route_change(self):
        self.assert_last(self.calls + [withdraw_all(0)], [3, 1, 2, 3])
        self.assert_last(self.calls + [withdraw_all(1)], [1, 0])
        self.assert_last(self.calls + [withdraw_all(2)], [3, 0, 1, 3])

    def test_routes_of_others_stay(self):
        found = run(self.calls + [withdraw_all(0), routing_table(3), member_routes(0), member_routes(1),
                                  member_routes(2), announced_prefixes()])
        self.assertEqual(found[-5:], [[2, 0, 1, 1, 64, 2, 2], [0], [1, 0, 1, 1, 200], [1, 64, 2, 1, 300],
                                      [2, 0, 1, 64, 2]])

    def test_routes_that_stay_keep_their_order(self):
        calls = exchange_of(2) + [announce(1, 128, 1, [200]), announce(0, 0, 0, [100]), announce(1, 0, 1, [200]),
                                  announce(0, 0, 1, [100]), announce(1, 64, 2, [200]), withdraw_all(0)]
        self.assert_last(calls + [member_routes(1)], [3, 128, 1, 1, 200, 0, 1, 1, 200, 64, 2, 1, 200])

    def test_each_changed_member_once(self):
        calls = exchange_of(2) + [announce(0, 0, 0, [100]), announce(0, 0, 1, [100]), announce(0, 0, 2, [100])]
        self.assert_last(calls + [withdraw_all(0)], [1, 1])

    def test_routes_that_nobody_uses(self):
        calls = self.calls + [set_export(1, 0, 1), withdraw_all(1)]
        self.assertEqual(run(calls + [member_routes(1)])[-2:], [[0], [0]])

    def test_member_without_routes(self):
        self.assert_last(self.calls + [withdraw_all(3)], [0])
        self.assert_last(self.calls + [withdraw_all(0), withdraw_all(0)], [0])
        self.assert_last(exchange_of(1) + [withdraw_all(0)], [0])
        self.assertEqual(run(self.calls + [withdraw_all(3)] + probes())[len(self.calls) + 1:],
                         run(self.calls + probes())[len(self.calls):])

    def test_policies_and_members_stay(self):
        calls = self.calls + [set_export(0, 1, 1), set_import(0, 2, 1), set_preference(0, 3, 9), withdraw_all(0)]
        self.assert_last(calls + [member_policy(0)], [100, 0, 0, 5, 1, 0, 5, 0, 1, 5, 0, 0, 9])

    def test_makes_room_for_as_many(self):
        calls = full_exchange() + [withdraw_all(1)]
        calls.extend([announce(0, address, 8, [100]) for address in range(6)])
        self.assertEqual(run(calls)[-6:], [[3, 1, 2, 3]] * 5 + [[-28]])

    def test_announced_again_afterwards(self):
        found = run(self.calls + [withdraw_all(0), announce(0, 128, 1, [100]), member_routes(0)])
        self.assertEqual(found[-2:], [[3, 1, 2, 3], [1, 128, 1, 1, 100]])

    def test_no_such_member(self):
        for member in [4, 6, LARGEST]:
            self.assert_refused(self.calls, withdraw_all(member), -2)
        self.assert_refused([reset()], withdraw_all(0), -2)


if __name__ == "__main__":
    unittest.main()
