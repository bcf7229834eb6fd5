"""Which routes are eligible, which of them is better, and what best_route and eligible_routes refuse."""

import unittest

from tests.helper import (
    LARGEST, WRONG_PREFIXES, ExchangeCase, add_member, announce, best_route, eligible_routes, exchange_of, reset, run,
    set_export, set_import, set_preference, withdraw,
)


class Eligible(ExchangeCase):
    def setUp(self):
        self.calls = exchange_of(3) + [announce(0, 0, 0, [100, 900])]

    def test_every_condition_holds(self):
        found = run(self.calls + [best_route(1, 0, 0), eligible_routes(1, 0, 0), eligible_routes(2, 0, 0)])
        self.assertEqual(found[-3:], [[0, 2, 100, 900], [1, 0], [1, 0]])

    def test_own_route(self):
        found = run(self.calls + [best_route(0, 0, 0), eligible_routes(0, 0, 0)])
        self.assertEqual(found[-2:], [[-33], [0]])

    def test_not_exported(self):
        found = run(self.calls + [set_export(0, 1, 1), best_route(1, 0, 0), eligible_routes(1, 0, 0)])
        self.assertEqual(found[-2:], [[-33], [0]])

    def test_not_imported(self):
        found = run(self.calls + [set_import(1, 0, 1), best_route(1, 0, 0), eligible_routes(1, 0, 0)])
        self.assertEqual(found[-2:], [[-33], [0]])

    def test_own_asn_anywhere_in_the_path(self):
        for path in [[100, 200], [100, 200, 900], [100, 1, 2, 3, 4, 200]]:
            calls = exchange_of(3) + [announce(0, 0, 0, path), best_route(1, 0, 0), eligible_routes(1, 0, 0)]
            self.assertEqual(run(calls + [eligible_routes(2, 0, 0)])[-3:], [[-33], [0], [1, 0]])

    def test_no_hidden_path(self):
        calls = self.calls + [announce(1, 0, 0, [200, 8, 9]), set_export(0, 2, 1)]
        found = run(calls + [best_route(2, 0, 0), eligible_routes(2, 0, 0)])
        self.assertEqual(found[-2:], [[1, 3, 200, 8, 9], [1, 1]])

    def test_only_this_very_prefix(self):
        found = run(self.calls + [best_route(1, 0, 1), eligible_routes(1, 0, 1), eligible_routes(1, 128, 1)])
        self.assertEqual(found[-3:], [[-33], [0], [0]])

    def test_prefix_with_the_same_length_elsewhere(self):
        calls = exchange_of(2) + [announce(0, 128, 1, [100])]
        found = run(calls + [eligible_routes(1, 0, 1), eligible_routes(1, 128, 1), eligible_routes(1, 128, 2)])
        self.assertEqual(found[-3:], [[0], [1, 0], [0]])

    def test_reporting_changes_nothing(self):
        reports = [best_route(1, 0, 0), eligible_routes(1, 0, 0), best_route(0, 0, 0), eligible_routes(2, 0, 0)]
        found = run(self.calls + reports * 3)
        self.assertEqual(found[-4:], found[-8:-4])
        self.assertEqual(found[-4:], found[-12:-8])

    def test_withdrawn(self):
        found = run(self.calls + [withdraw(0, 0, 0), best_route(1, 0, 0), eligible_routes(1, 0, 0)])
        self.assertEqual(found[-2:], [[-33], [0]])


class Better(ExchangeCase):
    def ranking(self, calls, expected):
        """The order of eligible_routes for the last member, the first of which is the best route."""
        found = run(calls + [eligible_routes(3, 0, 0), best_route(3, 0, 0)])
        self.assertEqual(found[-2], [len(expected)] + expected)
        self.assertEqual(found[-1][0], expected[0])

    def test_preference_before_length_and_asn(self):
        calls = exchange_of(4) + [announce(0, 0, 0, [100]), announce(1, 0, 0, [200, 7]), announce(2, 0, 0, [300, 7, 8])]
        self.ranking(calls, [0, 1, 2])
        self.ranking(calls + [set_preference(3, 2, 6)], [2, 0, 1])
        self.ranking(calls + [set_preference(3, 2, 9), set_preference(3, 1, 8)], [2, 1, 0])
        self.ranking(calls + [set_preference(3, 0, 4), set_preference(3, 1, 3)], [2, 0, 1])

    def test_length_before_asn(self):
        calls = exchange_of(4) + [announce(0, 0, 0, [100, 8, 9]), announce(1, 0, 0, [200, 9]), announce(2, 0, 0, [300])]
        self.ranking(calls, [2, 1, 0])
        self.ranking(calls + [announce(0, 0, 0, [100])], [0, 2, 1])

    def test_asn_when_all_else_is_equal(self):
        members = [reset()] + [add_member(asn) for asn in [30, 10, 20, 40]]
        routes = [announce(0, 0, 0, [30, 1]), announce(1, 0, 0, [10, 9999]), announce(2, 0, 0, [20, 2])]
        self.ranking(members + routes, [1, 2, 0])
        self.ranking(members + routes[::-1], [1, 2, 0])

    def test_asn_counts_as_a_number(self):
        members = [reset()] + [add_member(asn) for asn in [1000, 999, 9999, 1]]
        routes = [announce(0, 0, 0, [1000]), announce(1, 0, 0, [999]), announce(2, 0, 0, [9999])]
        self.ranking(members + routes, [1, 0, 2])

    def test_equal_preferences_other_than_5(self):
        calls = exchange_of(4) + [announce(member, 0, 0, [100 * (member + 1), 7]) for member in range(3)]
        calls.extend([set_preference(3, member, 8) for member in [2, 1]])
        self.ranking(calls, [1, 2, 0])

    def test_preference_is_that_of_the_asking_member(self):
        calls = exchange_of(4) + [announce(0, 0, 0, [100]), announce(1, 0, 0, [200]), set_preference(0, 3, 0)]
        self.ranking(calls + [set_preference(2, 1, 9), set_preference(1, 3, 9)], [0, 1])

    def test_each_member_has_its_own_order(self):
        calls = exchange_of(3) + [announce(member, 0, 0, [100 * (member + 1)]) for member in range(3)]
        calls.extend([set_preference(0, 2, 6), set_preference(1, 0, 4)])
        found = run(calls + [eligible_routes(member, 0, 0) for member in range(3)])
        self.assertEqual(found[-3:], [[2, 2, 1], [2, 2, 0], [2, 0, 1]])


class ReportRefused(ExchangeCase):
    def setUp(self):
        self.calls = exchange_of(3) + [announce(0, 0, 0, [100]), announce(1, 0, 0, [200])]

    def test_no_such_member(self):
        for report in [best_route, eligible_routes]:
            for member in [3, 6, LARGEST]:
                self.assert_refused(self.calls, report(member, 0, 0), -2)

    def test_wrong_prefix(self):
        for report in [best_route, eligible_routes]:
            for address, length in WRONG_PREFIXES:
                self.assert_refused(self.calls, report(2, address, length), -22)

    def test_no_eligible_route(self):
        self.assert_refused(self.calls, best_route(2, 0, 1), -33)
        self.assert_refused(self.calls + [withdraw(1, 0, 0)], best_route(0, 0, 0), -33)

    def test_order_of_errors(self):
        for report in [best_route, eligible_routes]:
            self.assert_refused(self.calls, report(3, 1, 0), -2)
        self.assert_refused(self.calls, best_route(2, 1, 0), -22)
        self.assert_refused(self.calls, best_route(3, 0, 1), -2)


if __name__ == "__main__":
    unittest.main()
