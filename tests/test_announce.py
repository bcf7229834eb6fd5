"""announce and withdraw: what changes, what is refused, and where a route stands in the list."""

import unittest

from tests.helper import (
    LARGEST, WRONG_PREFIXES, ExchangeCase, announce, best_route, eligible_routes, exchange_of, full_exchange,
    member_routes, run, set_export, set_preference, withdraw,
)

WRONG_PATHS = [
    [], [100, 1, 2, 3, 4, 5, 6], [100, 1, 2, 3, 4, 5, 6, 7], [100, 0], [0], [100, 10000], [100, LARGEST],
    [LARGEST], [10000], [100, 100], [100, 7, 8, 7], [200], [200, 100], [900, 100], [1, 2, 3, 4, 5, 6, 7, 8],
]


class Announce(ExchangeCase):
    def test_all_others_change(self):
        calls = exchange_of(4)
        self.assert_last(calls + [announce(2, 64, 2, [300])], [3, 0, 1, 3])
        self.assert_last(calls + [announce(0, 64, 2, [100])], [3, 1, 2, 3])

    def test_worse_route_changes_only_who_has_no_better(self):
        calls = exchange_of(4) + [announce(0, 0, 0, [100])]
        self.assert_last(calls + [announce(3, 0, 0, [400])], [1, 0])

    def test_better_route_changes_those_who_use_it(self):
        calls = exchange_of(4) + [announce(2, 0, 0, [300])]
        self.assert_last(calls + [announce(0, 0, 0, [100])], [3, 1, 2, 3])
        self.assert_last(calls + [set_preference(3, 2, 6), announce(0, 0, 0, [100])], [2, 1, 2])

    def test_nobody_changes(self):
        calls = exchange_of(3) + [announce(0, 0, 0, [100]), announce(1, 0, 0, [200])]
        self.assert_last(calls + [announce(2, 0, 0, [300])], [0])

    def test_members_of_the_path_are_not_changed(self):
        self.assert_last(exchange_of(4) + [announce(0, 0, 0, [100, 300])], [2, 1, 3])
        self.assert_last(exchange_of(4) + [announce(0, 0, 0, [100, 400, 300, 200])], [0])

    def test_every_length_and_the_last_address(self):
        for length in range(9):
            last = 256 - 2 ** (8 - length)
            calls = exchange_of(2) + [announce(0, last, length, [100]), best_route(1, last, length)]
            self.assertEqual(run(calls)[-2:], [[1, 1], [0, 1, 100]])

    def test_one_prefix_within_another_is_a_prefix_of_its_own(self):
        calls = exchange_of(2) + [announce(0, 0, 0, [100]), announce(0, 0, 1, [100, 8]), announce(0, 0, 8, [100, 9])]
        found = run(calls + [best_route(1, 0, 0), best_route(1, 0, 1), best_route(1, 0, 8), best_route(1, 0, 2)])
        self.assertEqual(found[3:], [[1, 1], [1, 1], [1, 1], [0, 1, 100], [0, 2, 100, 8], [0, 2, 100, 9], [-33]])

    def test_paths_of_one_and_of_six(self):
        for path in [[100], [100, 1], [100, 9999, 1, 2, 3, 4]]:
            calls = exchange_of(2) + [announce(0, 0, 0, path), best_route(1, 0, 0)]
            self.assertEqual(run(calls)[-2:], [[1, 1], [0, len(path)] + path])


class AnnounceAgain(ExchangeCase):
    def setUp(self):
        self.calls = exchange_of(3) + [announce(0, 0, 0, [100, 900])]

    def test_path_is_replaced(self):
        found = run(self.calls + [announce(0, 0, 0, [100, 800]), best_route(1, 0, 0), eligible_routes(1, 0, 0)])
        self.assertEqual(found[-3:], [[2, 1, 2], [0, 2, 100, 800], [1, 0]])

    def test_same_path_changes_nobody(self):
        self.assert_last(self.calls + [announce(0, 0, 0, [100, 900])], [0])

    def test_order_within_the_path_counts(self):
        calls = exchange_of(2) + [announce(0, 0, 0, [100, 8, 9]), announce(0, 0, 0, [100, 9, 8])]
        self.assertEqual(run(calls)[-1], [1, 1])

    def test_path_that_nobody_uses_changes_nobody(self):
        calls = self.calls + [announce(1, 0, 0, [200])]
        self.assert_last(calls + [announce(0, 0, 0, [100, 800])], [1, 1])
        self.assert_last(calls + [announce(2, 0, 0, [300, 7]), announce(2, 0, 0, [300, 8])], [0])

    def test_member_of_the_new_path_loses_the_route(self):
        found = run(self.calls + [announce(0, 0, 0, [100, 200]), announce(0, 0, 0, [100, 300])])
        self.assertEqual(found[-2:], [[2, 1, 2], [2, 1, 2]])
        found = run(self.calls + [announce(0, 0, 0, [100, 200]), announce(0, 0, 0, [100, 200])])
        self.assertEqual(found[-2:], [[2, 1, 2], [0]])

    def test_withdrawn_once_it_is_gone(self):
        found = run(self.calls + [announce(0, 0, 0, [100]), withdraw(0, 0, 0), withdraw(0, 0, 0)])
        self.assertEqual(found[-2:], [[2, 1, 2], [-6]])

    def test_route_keeps_its_place_in_the_list(self):
        calls = exchange_of(1) + [announce(0, address, 2, [100]) for address in [128, 0, 64]]
        calls.extend([announce(0, 128, 2, [100, 7]), announce(0, 192, 2, [100]), announce(0, 0, 2, [100, 8])])
        self.assert_last(calls + [member_routes(0)],
                         [4, 128, 2, 2, 100, 7, 0, 2, 2, 100, 8, 64, 2, 1, 100, 192, 2, 1, 100])


class AnnounceRefused(ExchangeCase):
    def setUp(self):
        self.calls = exchange_of(3) + [announce(0, 0, 0, [100, 900])]

    def test_no_such_member(self):
        for member in [3, 5, 6, LARGEST]:
            self.assert_refused(self.calls, announce(member, 0, 0, [100]), -2)

    def test_wrong_prefix(self):
        for address, length in WRONG_PREFIXES:
            self.assert_refused(self.calls, announce(0, address, length, [100]), -22)

    def test_wrong_path(self):
        for path in WRONG_PATHS:
            self.assert_refused(self.calls, announce(0, 0, 0, path), -22)
            self.assert_refused(self.calls, announce(0, 0, 1, path), -22)

    def test_order_of_errors(self):
        self.assert_refused(self.calls, announce(3, 1, 0, []), -2)
        self.assert_refused(full_exchange(), announce(4, 0, 0, [100]), -2)
        self.assert_refused(full_exchange(), announce(0, 1, 0, [100]), -22)
        self.assert_refused(full_exchange(), announce(0, 0, 0, [100, 0]), -22)


class TwentyRoutes(ExchangeCase):
    def test_the_twentieth_is_taken(self):
        self.assertNotIn([-28], run(full_exchange()))

    def test_the_twenty_first_is_refused(self):
        for member in range(4):
            self.assert_refused(full_exchange(), announce(member, 0, 0, [100 * (member + 1)]), -28)
        self.assert_refused(full_exchange(), announce(0, 160, 3, [100]), -28)

    def test_announced_again_it_is_no_twenty_first(self):
        self.assert_last(full_exchange() + [announce(0, 128, 3, [100, 900])], [3, 1, 2, 3])
        self.assert_last(full_exchange() + [announce(3, 0, 3, [400])], [0])

    def test_withdrawing_makes_room_for_one(self):
        calls = full_exchange() + [withdraw(3, 0, 3), announce(2, 0, 0, [300]), announce(3, 0, 3, [400])]
        self.assertEqual(run(calls)[-3:], [[0], [3, 0, 1, 3], [-28]])


class Withdraw(ExchangeCase):
    def setUp(self):
        self.calls = exchange_of(3) + [announce(1, 0, 1, [200]), announce(0, 0, 1, [100])]

    def test_users_of_the_route_change(self):
        found = run(self.calls + [withdraw(0, 0, 1), best_route(2, 0, 1), best_route(1, 0, 1)])
        self.assertEqual(found[-3:], [[2, 1, 2], [1, 1, 200], [-33]])

    def test_route_that_nobody_uses(self):
        calls = self.calls + [set_export(1, 0, 1), withdraw(1, 0, 1)]
        self.assertEqual(run(calls)[-2:], [[1, 0], [0]])

    def test_only_this_prefix_of_this_member(self):
        calls = self.calls + [announce(0, 0, 2, [100]), withdraw(0, 0, 1)]
        found = run(calls + [best_route(2, 0, 2), eligible_routes(2, 0, 1)])
        self.assertEqual(found[-2:], [[0, 1, 100], [1, 1]])

    def test_no_such_member(self):
        for member in [3, LARGEST]:
            self.assert_refused(self.calls, withdraw(member, 0, 1), -2)

    def test_wrong_prefix(self):
        for address, length in WRONG_PREFIXES:
            self.assert_refused(self.calls, withdraw(0, address, length), -22)

    def test_no_such_route(self):
        for address, length in [(0, 0), (0, 2), (128, 1), (0, 8)]:
            self.assert_refused(self.calls, withdraw(0, address, length), -6)
        self.assert_refused(self.calls, withdraw(2, 0, 1), -6)

    def test_order_of_errors(self):
        self.assert_refused(self.calls, withdraw(3, 1, 1), -2)
        self.assert_refused(self.calls, withdraw(2, 1, 1), -22)


if __name__ == "__main__":
    unittest.main()
