"""set_export, set_import and set_preference: who changes, and what is refused."""

import unittest

from tests.helper import (
    LARGEST, ExchangeCase, announce, best_route, eligible_routes, exchange_of, run,
    set_export, set_import, set_preference,
)


class SetExport(ExchangeCase):
    def setUp(self):
        self.calls = exchange_of(3) + [announce(0, 0, 0, [100]), announce(1, 0, 0, [200])]

    def test_denied_peer_gets_the_next_best(self):
        found = run(self.calls + [set_export(0, 2, 1), best_route(2, 0, 0), best_route(1, 0, 0)])
        self.assertEqual(found[-3:], [[1, 2], [1, 1, 200], [0, 1, 100]])

    def test_denied_peer_is_left_without_route(self):
        found = run(self.calls + [set_export(0, 1, 1), best_route(1, 0, 0), eligible_routes(2, 0, 0)])
        self.assertEqual(found[-3:], [[1, 1], [-33], [2, 0, 1]])

    def test_allowed_again(self):
        found = run(self.calls + [set_export(0, 2, 1), set_export(0, 2, 0), best_route(2, 0, 0)])
        self.assertEqual(found[-3:], [[1, 2], [1, 2], [0, 1, 100]])

    def test_nobody_changes(self):
        self.assert_last(self.calls + [set_export(0, 2, 0)], [0])
        self.assert_last(self.calls + [set_export(1, 2, 1)], [0])
        self.assert_last(self.calls + [set_export(2, 0, 1)], [0])
        self.assert_last(self.calls + [set_export(0, 2, 1), set_export(0, 2, 1)], [0])

    def test_holds_for_routes_that_come_later(self):
        calls = self.calls + [set_export(2, 0, 1), announce(2, 128, 1, [300])]
        self.assertEqual(run(calls)[-1], [1, 1])

    def test_does_not_deny_the_other_way(self):
        calls = exchange_of(2) + [set_export(0, 1, 1), announce(1, 0, 0, [200]), announce(0, 0, 0, [100])]
        self.assertEqual(run(calls)[-2:], [[1, 0], [0]])


class SetImport(ExchangeCase):
    def setUp(self):
        self.calls = exchange_of(3) + [announce(0, 0, 0, [100]), announce(1, 0, 0, [200])]

    def test_member_gets_the_next_best(self):
        found = run(self.calls + [set_import(2, 0, 1), best_route(2, 0, 0), best_route(1, 0, 0)])
        self.assertEqual(found[-3:], [[1, 2], [1, 1, 200], [0, 1, 100]])

    def test_member_is_left_without_route(self):
        found = run(self.calls + [set_import(1, 0, 1), best_route(1, 0, 0), eligible_routes(1, 0, 0)])
        self.assertEqual(found[-3:], [[1, 1], [-33], [0]])

    def test_allowed_again(self):
        found = run(self.calls + [set_import(2, 0, 1), set_import(2, 0, 0), best_route(2, 0, 0)])
        self.assertEqual(found[-3:], [[1, 2], [1, 2], [0, 1, 100]])

    def test_nobody_changes(self):
        self.assert_last(self.calls + [set_import(2, 0, 0)], [0])
        self.assert_last(self.calls + [set_import(2, 1, 1)], [0])
        self.assert_last(self.calls + [set_import(0, 2, 1)], [0])
        self.assert_last(self.calls + [set_import(2, 0, 1), set_import(2, 0, 1)], [0])

    def test_does_not_deny_the_other_way(self):
        calls = exchange_of(2) + [set_import(0, 1, 1), announce(1, 0, 0, [200]), announce(0, 0, 0, [100])]
        self.assertEqual(run(calls)[-2:], [[0], [1, 1]])


class DeniedByBoth(ExchangeCase):
    def setUp(self):
        self.calls = exchange_of(3) + [announce(0, 0, 0, [100]), set_export(0, 1, 1), set_import(1, 0, 1)]

    def test_the_second_denial_changes_nobody(self):
        self.assertEqual(run(self.calls)[-2:], [[1, 1], [0]])

    def test_allowing_one_is_not_enough(self):
        self.assert_last(self.calls + [set_export(0, 1, 0)], [0])
        self.assert_last(self.calls + [set_import(1, 0, 0)], [0])
        self.assert_last(self.calls + [set_export(0, 1, 0), best_route(1, 0, 0)], [-33])
        self.assert_last(self.calls + [set_import(1, 0, 0), eligible_routes(1, 0, 0)], [0])

    def test_allowing_both_is(self):
        found = run(self.calls + [set_export(0, 1, 0), set_import(1, 0, 0), best_route(1, 0, 0)])
        self.assertEqual(found[-3:], [[0], [1, 1], [0, 1, 100]])

    def test_nobody_else_is_denied(self):
        self.assert_last(self.calls + [best_route(2, 0, 0)], [0, 1, 100])


class SetPreference(ExchangeCase):
    def setUp(self):
        self.calls = exchange_of(3) + [announce(0, 0, 0, [100]), announce(1, 0, 0, [200])]

    def test_preferred_peer_wins(self):
        found = run(self.calls + [set_preference(2, 1, 6), best_route(2, 0, 0), best_route(0, 0, 0)])
        self.assertEqual(found[-3:], [[1, 2], [1, 1, 200], [1, 1, 200]])

    def test_lowered_peer_loses(self):
        found = run(self.calls + [set_preference(2, 0, 4), eligible_routes(2, 0, 0)])
        self.assertEqual(found[-2:], [[1, 2], [2, 1, 0]])

    def test_initially_5(self):
        self.assert_last(self.calls + [set_preference(2, 0, 5)], [0])
        self.assert_last(self.calls + [set_preference(2, 1, 5)], [0])
        self.assert_last(self.calls + [set_preference(2, 1, 9), set_preference(2, 1, 5)], [1, 2])

    def test_0_and_9_are_taken(self):
        self.assert_last(self.calls + [set_preference(2, 0, 0)], [1, 2])
        self.assert_last(self.calls + [set_preference(2, 0, 9)], [0])
        self.assert_last(self.calls + [set_preference(2, 0, 8), set_preference(2, 1, 9)], [1, 2])

    def test_preference_0_is_still_eligible(self):
        calls = exchange_of(2) + [announce(0, 0, 0, [100]), set_preference(1, 0, 0), best_route(1, 0, 0)]
        self.assertEqual(run(calls)[-2:], [[0], [0, 1, 100]])

    def test_others_keep_their_preferences(self):
        found = run(self.calls + [announce(2, 0, 0, [300]), set_preference(2, 1, 9), set_preference(0, 2, 9)]
                    + [eligible_routes(member, 0, 0) for member in range(3)])
        self.assertEqual(found[-5:], [[1, 2], [1, 0], [2, 2, 1], [2, 0, 2], [2, 1, 0]])


class Refused(ExchangeCase):
    def setUp(self):
        self.calls = exchange_of(3) + [announce(0, 0, 0, [100]), announce(1, 0, 0, [200])]
        self.calls.extend([set_export(2, 0, 1), set_import(1, 2, 1), set_preference(2, 1, 7)])

    def test_no_such_member(self):
        for policy in [set_export, set_import, set_preference]:
            for member, peer in [(3, 0), (0, 3), (3, 4), (LARGEST, 0), (0, LARGEST)]:
                self.assert_refused(self.calls, policy(member, peer, 1), -2)

    def test_equal_members(self):
        for policy in [set_export, set_import, set_preference]:
            for member in range(3):
                self.assert_refused(self.calls, policy(member, member, 0), -22)

    def test_value_out_of_range(self):
        for value in [2, 9, LARGEST]:
            self.assert_refused(self.calls, set_export(0, 1, value), -22)
            self.assert_refused(self.calls, set_import(1, 0, value), -22)
        for value in [10, 11, LARGEST]:
            self.assert_refused(self.calls, set_preference(1, 0, value), -22)

    def test_order_of_errors(self):
        for policy in [set_export, set_import, set_preference]:
            for member, peer in [(3, 0), (0, 3), (3, 3), (LARGEST, LARGEST)]:
                self.assert_refused(self.calls, policy(member, peer, 10), -2)


if __name__ == "__main__":
    unittest.main()
