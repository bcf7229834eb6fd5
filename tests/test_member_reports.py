"""member_routes and member_policy."""

import unittest

from tests.helper import (
    LARGEST, ExchangeCase, add_member, announce, exchange_of, full_exchange, member_policy, member_routes, reset, run,
    set_export, set_import, set_preference, withdraw,
)


class MemberRoutes(ExchangeCase):
    def setUp(self):
        self.calls = exchange_of(3) + [announce(0, 128, 1, [100, 900]), announce(1, 0, 1, [200]),
                                       announce(0, 0, 8, [100])]

    def test_own_routes_with_their_paths(self):
        found = run(self.calls + [member_routes(member) for member in range(3)])
        self.assertEqual(found[-3:], [[2, 128, 1, 2, 100, 900, 0, 8, 1, 100], [1, 0, 1, 1, 200], [0]])

    def test_order_of_appending_and_not_of_prefixes(self):
        for order in [[0, 64, 128, 192], [192, 128, 64, 0], [64, 192, 0, 128]]:
            calls = exchange_of(2) + [announce(1, address, 2, [200]) for address in order]
            expected = [4] + [field for address in order for field in [address, 2, 1, 200]]
            self.assert_last(calls + [member_routes(1)], expected)

    def test_announced_again_a_route_keeps_its_place(self):
        calls = self.calls + [announce(0, 64, 2, [100]), announce(0, 128, 1, [100, 7, 8]), announce(0, 0, 8, [100, 9])]
        self.assert_last(calls + [member_routes(0)], [3, 128, 1, 3, 100, 7, 8, 0, 8, 2, 100, 9, 64, 2, 1, 100])

    def test_withdrawn_and_announced_it_stands_last(self):
        calls = self.calls + [withdraw(0, 128, 1), announce(0, 128, 1, [100, 900])]
        self.assert_last(calls + [member_routes(0)], [2, 0, 8, 1, 100, 128, 1, 2, 100, 900])

    def test_withdrawing_keeps_the_order_of_the_others(self):
        calls = exchange_of(1) + [announce(0, address, 2, [100]) for address in [192, 0, 128, 64]]
        self.assert_last(calls + [withdraw(0, 0, 2), member_routes(0)],
                         [3, 192, 2, 1, 100, 128, 2, 1, 100, 64, 2, 1, 100])

    def test_paths_of_one_and_of_six(self):
        path = [100, 9999, 1, 300, 4, 5]
        calls = exchange_of(1) + [announce(0, 0, 0, path), announce(0, 0, 1, [100])]
        self.assert_last(calls + [member_routes(0)], [2, 0, 0, 6] + path + [0, 1, 1, 100])

    def test_twenty_routes_of_one_member(self):
        path = [100, 1, 2, 3, 4, 5]
        calls = exchange_of(1) + [announce(0, 19 - number, 8, path) for number in range(20)]
        expected = [20] + [field for number in range(20) for field in [19 - number, 8, 6] + path]
        self.assert_last(calls + [member_routes(0)], expected)

    def test_policies_do_not_count(self):
        calls = self.calls + [set_export(1, 0, 1), set_export(1, 2, 1), set_import(0, 1, 1)]
        self.assert_last(calls + [member_routes(1)], [1, 0, 1, 1, 200])

    def test_no_such_member(self):
        for member in [3, 6, LARGEST]:
            self.assert_refused(self.calls, member_routes(member), -2)
        self.assert_refused([reset()], member_routes(0), -2)

    def test_changes_nothing(self):
        self.assert_unchanged(self.calls, member_routes(0))
        self.assert_unchanged(full_exchange(), member_routes(3))


class MemberPolicy(ExchangeCase):
    def setUp(self):
        self.calls = exchange_of(3) + [set_export(0, 1, 1), set_import(0, 2, 1), set_preference(0, 1, 9),
                                       set_preference(0, 2, 0), set_export(2, 0, 1), set_import(2, 0, 1)]

    def test_asn_and_three_numbers_for_each_member(self):
        found = run(self.calls + [member_policy(member) for member in range(3)])
        self.assertEqual(found[-3:], [[100, 0, 0, 5, 1, 0, 9, 0, 1, 0], [200, 0, 0, 5, 0, 0, 5, 0, 0, 5],
                                      [300, 1, 1, 5, 0, 0, 5, 0, 0, 5]])

    def test_one_member(self):
        self.assert_last(exchange_of(1) + [member_policy(0)], [100, 0, 0, 5])

    def test_six_members(self):
        self.assert_last(exchange_of(6) + [member_policy(5)], [600] + [0, 0, 5] * 6)

    def test_taken_back(self):
        calls = self.calls + [set_export(0, 1, 0), set_import(0, 2, 0)]
        calls.extend([set_preference(0, 1, 5), set_preference(0, 2, 5)])
        self.assert_last(calls + [member_policy(0)], [100] + [0, 0, 5] * 3)

    def test_each_preference(self):
        for preference in range(10):
            calls = exchange_of(2) + [set_preference(1, 0, preference)]
            self.assert_last(calls + [member_policy(1)], [200, 0, 0, preference, 0, 0, 5])

    def test_member_itself_is_always_0_0_5(self):
        calls = self.calls + [set_export(0, 0, 1), set_import(0, 0, 1), set_preference(0, 0, 9)]
        self.assertEqual(run(calls + [member_policy(0)])[-1][:4], [100, 0, 0, 5])

    def test_later_member_starts_with_the_initial_policies(self):
        calls = self.calls + [add_member(50)]
        found = run(calls + [member_policy(0), member_policy(3)])
        self.assertEqual(found[-2:], [[100, 0, 0, 5, 1, 0, 9, 0, 1, 0, 0, 0, 5], [50] + [0, 0, 5] * 4])

    def test_reset_again(self):
        self.assert_last(self.calls + exchange_of(3) + [member_policy(0)], [100] + [0, 0, 5] * 3)

    def test_no_such_member(self):
        for member in [3, 6, LARGEST]:
            self.assert_refused(self.calls, member_policy(member), -2)
        self.assert_refused([reset()], member_policy(0), -2)

    def test_changes_nothing(self):
        self.assert_unchanged(self.calls, member_policy(0))
        self.assert_unchanged(full_exchange(), member_policy(1))


if __name__ == "__main__":
    unittest.main()
