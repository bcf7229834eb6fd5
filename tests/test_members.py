"""add_member, and exchanges with no member and with one."""

import unittest

from tests.helper import (
    LARGEST, ExchangeCase, add_member, announce, announced_prefixes, best_route, eligible_routes, exchange_of, lookup,
    member_policy, member_routes, preview_withdraw, reachable_addresses, reset, routing_table, run, set_export,
    set_import, set_preference, users_of, withdraw, withdraw_all,
)


class AddMember(ExchangeCase):
    def test_indices_in_the_order_of_adding(self):
        calls = [reset()] + [add_member(asn) for asn in [500, 1, 9999, 20, 30, 40]]
        self.assertEqual(run(calls)[1:], [[0], [1], [2], [3], [4], [5]])

    def test_asn_out_of_range(self):
        for asn in [0, 10000, LARGEST]:
            self.assert_refused(exchange_of(1), add_member(asn), -22)

    def test_asn_in_use(self):
        for asn in [100, 200, 300]:
            self.assert_refused(exchange_of(3), add_member(asn), -17)

    def test_asn_of_a_path_is_free_for_a_member(self):
        self.assert_last(exchange_of(1) + [announce(0, 0, 0, [100, 900]), add_member(900)], [1])

    def test_seventh_member(self):
        self.assert_last(exchange_of(6), [5])
        self.assert_refused(exchange_of(6), add_member(700), -28)

    def test_order_of_errors(self):
        for asn in [0, 10000]:
            self.assert_refused(exchange_of(6), add_member(asn), -22)
        self.assert_refused(exchange_of(6), add_member(600), -17)

    def test_later_member_starts_with_the_initial_policies(self):
        calls = exchange_of(2) + [announce(1, 0, 0, [200, 900]), announce(0, 0, 0, [100, 900]), add_member(50)]
        calls.append(announce(2, 0, 0, [50, 800]))
        found = run(calls + [eligible_routes(member, 0, 0) for member in range(3)])
        self.assertEqual(found[-3:], [[2, 2, 1], [2, 2, 0], [2, 0, 1]])

    def test_member_gets_no_route_through_itself_when_it_comes_later(self):
        calls = exchange_of(1) + [announce(0, 0, 0, [100, 200]), add_member(200), add_member(300)]
        found = run(calls + [eligible_routes(1, 0, 0), eligible_routes(2, 0, 0)])
        self.assertEqual(found[-2:], [[0], [1, 0]])


class FewMembers(ExchangeCase):
    def test_no_members(self):
        for call in [announce(0, 0, 0, [100]), withdraw(0, 0, 0), set_export(0, 0, 0), set_import(0, 1, 0),
                     set_preference(1, 0, 5), best_route(0, 0, 0), eligible_routes(0, 0, 0), routing_table(0),
                     lookup(0, 0), reachable_addresses(0), users_of(0), preview_withdraw(0, 0, 0), withdraw_all(0),
                     member_routes(0), member_policy(0)]:
            self.assert_refused([reset()], call, -2)
        self.assert_last([reset(), announced_prefixes()], [0])

    def test_one_member(self):
        calls = exchange_of(1) + [announce(0, 0, 0, [100]), announce(0, 0, 0, [100, 900]), best_route(0, 0, 0),
                                  eligible_routes(0, 0, 0), set_export(0, 0, 0), set_import(0, 1, 0),
                                  set_preference(0, 0, 5), withdraw(0, 0, 0), withdraw(0, 0, 0)]
        self.assertEqual(run(calls)[2:], [[0], [0], [-33], [0], [-22], [-2], [-22], [0], [-6]])

    def test_reports_on_one_member(self):
        calls = exchange_of(1) + [announce(0, 0, 0, [100]), routing_table(0), lookup(0, 0), reachable_addresses(0),
                                  users_of(0), preview_withdraw(0, 0, 0), announced_prefixes(), member_routes(0),
                                  member_policy(0), withdraw_all(0), withdraw_all(0), announced_prefixes()]
        self.assertEqual(run(calls)[3:], [[0], [-33], [0], [0], [0], [1, 0, 0], [1, 0, 0, 1, 100], [100, 0, 0, 5],
                                          [0], [0], [0]])


if __name__ == "__main__":
    unittest.main()
