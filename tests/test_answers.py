"""The one list in, the one list out, and the time before the first reset."""

import random
import unittest

from nohiddenpaths.exchange import answers
from tests.helper import (
    LARGEST, MIXED_ASNS, MOST_CALLS, ExchangeCase, add_member, announce, announced_prefixes, best_route, chosen_call,
    eligible_routes, exchange_of, lookup, member_policy, member_routes, preview_withdraw, probes, reachable_addresses,
    reset, routing_table, run, set_export, set_import, set_preference, users_of, withdraw, withdraw_all,
)

EVERY_CALL_BUT_RESET = [
    add_member(100), announce(0, 0, 1, [100]), withdraw(0, 0, 1), set_export(0, 1, 1), set_import(0, 1, 1),
    set_preference(0, 1, 9), best_route(0, 0, 1), eligible_routes(0, 0, 1), routing_table(0), lookup(0, 0),
    reachable_addresses(0), users_of(0), preview_withdraw(0, 0, 1), withdraw_all(0), announced_prefixes(),
    member_routes(0), member_policy(0),
]

EXAMPLE = [
    (reset(), [0]),
    (add_member(100), [0]),
    (add_member(200), [1]),
    (add_member(300), [2]),
    (announce(0, 0, 1, [100]), [2, 1, 2]),
    (announce(1, 0, 2, [200, 900]), [2, 0, 2]),
    (lookup(2, 10), [1, 0, 2]),
    (lookup(2, 100), [0, 0, 1]),
    (set_import(2, 1, 1), [1, 2]),
    (lookup(2, 10), [0, 0, 1]),
    (announce(0, 1, 1, [100]), [-22]),
    (withdraw(1, 0, 2), [1, 0]),
]


class Form(unittest.TestCase):
    def test_counts_stand_before_the_answers(self):
        calls = [0, 1, 100, 1, 200, 2, 0, 0, 1, 2, 100, 900, 7, 1, 0, 1, 8, 1, 0, 1, 8, 0, 0, 1, 3, 5, 0, 0]
        self.assertEqual(
            answers(calls),
            [1, 0, 1, 0, 1, 1, 2, 1, 1, 4, 0, 2, 100, 900, 2, 1, 0, 1, 0, 1, -2])

    def test_counts_of_the_reports(self):
        calls = [0, 1, 100, 1, 200, 2, 0, 64, 2, 2, 100, 900, 2, 0, 0, 8, 1, 100]
        calls.extend([9, 1, 10, 1, 70, 11, 1, 12, 0, 13, 0, 64, 2, 15, 16, 0, 17, 1, 14, 0, 9, 1, 10, 1, 256])
        self.assertEqual(
            answers(calls),
            [1, 0, 1, 0, 1, 1, 2, 1, 1, 2, 1, 1, 7, 2, 0, 8, 0, 64, 2, 0, 3, 0, 64, 2, 1, 65, 2, 1, 1, 2, 1, 1,
             5, 2, 0, 8, 64, 2, 10, 2, 64, 2, 2, 100, 900, 0, 8, 1, 100, 7, 200, 0, 0, 5, 0, 0, 5, 2, 1, 1, 1, 0,
             1, -22])

    def test_answers_are_plain_whole_numbers_in_a_list(self):
        found = answers([number for call in exchange_of(1) + EVERY_CALL_BUT_RESET + probes() for number in call])
        self.assertIs(type(found), list)
        self.assertEqual({type(number) for number in found}, {int})

    def test_document_example(self):
        self.assertEqual(run([call for call, expected in EXAMPLE]), [expected for call, expected in EXAMPLE])

    def test_path_of_any_length_does_not_shift_the_calls_behind_it(self):
        for count in range(9):
            path = [100 + number for number in range(count)]
            found = run(exchange_of(1) + [announce(0, 0, 0, path), add_member(77)])
            self.assertEqual(found[2], [0] if 1 <= count <= 6 else [-22])
            self.assertEqual(found[3], [1])


class HandedIn(unittest.TestCase):
    def setUp(self):
        calls = [call for call, expected in EXAMPLE]
        calls.extend([announce(0, 0, 1, [100, 101]), best_route(1, 0, 1), member_routes(0)] * 2)
        calls.extend(EVERY_CALL_BUT_RESET + probes() + EVERY_CALL_BUT_RESET)
        self.calls = [number for call in calls for number in call]

    def test_list_is_unchanged(self):
        as_handed_in = list(self.calls)
        answers(self.calls)
        self.assertEqual(self.calls, as_handed_in)

    def test_second_time_answers_the_same(self):
        first = answers(self.calls)
        kept = list(first)
        self.assertEqual(answers(self.calls), kept)
        self.assertEqual(first, kept)

    def test_longest_lists_are_unchanged_and_answered_the_same_again(self):
        for seed in range(6):
            source = random.Random(seed)
            calls = [reset()] + [add_member(asn) for asn in MIXED_ASNS]
            while len(calls) < MOST_CALLS:
                calls.append(chosen_call(source))
            numbers = [number for call in calls for number in call]
            as_handed_in = list(numbers)
            first = answers(numbers)
            self.assertEqual(numbers, as_handed_in)
            self.assertEqual(answers(numbers), first)

    def test_list_that_is_changed_afterwards_does_not_matter(self):
        first = answers(self.calls)
        kept = list(first)
        self.calls.reverse()
        self.calls.clear()
        self.assertEqual(first, kept)

    def test_answers_given_back_may_be_changed(self):
        kept = list(answers(self.calls))
        answers(self.calls).clear()
        self.assertEqual(answers(self.calls), kept)

    def test_nothing_is_kept(self):
        answers(self.calls)
        for call in EVERY_CALL_BUT_RESET:
            self.assertEqual(run([call]), [[-11]])
        answers(self.calls)
        found = run([reset(), announced_prefixes(), add_member(100), member_routes(0), member_policy(0)])
        self.assertEqual(found, [[0], [0], [0], [0], [100, 0, 0, 5]])


class BeforeReset(unittest.TestCase):
    def test_each_call_alone(self):
        for call in EVERY_CALL_BUT_RESET:
            self.assertEqual(run([call]), [[-11]])

    def test_every_call_of_the_interface_is_among_them(self):
        self.assertEqual([call[0] for call in EVERY_CALL_BUT_RESET], list(range(1, 18)))

    def test_behind_a_reset_it_does_not_come(self):
        for call in EVERY_CALL_BUT_RESET:
            found = run([call, reset(), call, add_member(100), call])
            self.assertEqual([found[0], found[1]], [[-11], [0]])
            self.assertNotIn([-11], found[1:])

    def test_comes_before_every_other_error(self):
        for call in [add_member(0), add_member(LARGEST), announce(9, 1, 1, []), announce(0, 300, 9, [0] * 8),
                     withdraw(9, 1, 9), set_export(0, 0, 2), set_import(9, 9, 2), set_preference(0, 0, 10),
                     best_route(LARGEST, 1, 1), eligible_routes(LARGEST, 1, 1), routing_table(6), lookup(6, 256),
                     lookup(0, LARGEST), reachable_addresses(6), users_of(LARGEST), preview_withdraw(6, 1, 9),
                     preview_withdraw(0, 1, 1), withdraw_all(6), member_routes(LARGEST), member_policy(LARGEST)]:
            self.assertEqual(run([call]), [[-11]])

    def test_calls_before_reset_leave_nothing(self):
        found = run(EVERY_CALL_BUT_RESET + [reset(), add_member(100)])
        self.assertEqual(found, [[-11]] * 17 + [[0], [0]])


class Reset(ExchangeCase):
    def test_reset_answers_0(self):
        self.assertEqual(run([reset()]), [[0]])
        self.assertEqual(run([reset(), reset()]), [[0], [0]])

    def test_reset_again_replaces_members_and_routes(self):
        calls = exchange_of(3) + [announce(0, 0, 0, [100]), reset()]
        self.assert_last(calls + [best_route(1, 0, 0)], [-2])
        self.assert_last(calls + [add_member(300)], [0])
        self.assert_last(calls + [add_member(100), add_member(200), eligible_routes(1, 0, 0)], [0])
        self.assert_last(calls + [add_member(100), withdraw(0, 0, 0)], [-6])
        self.assert_last(calls + [announced_prefixes()], [0])
        self.assert_last(calls + [add_member(100), member_routes(0)], [0])

    def test_reset_again_replaces_policies(self):
        calls = exchange_of(3) + [set_export(0, 1, 1), set_import(2, 0, 1), set_preference(2, 1, 0)] + exchange_of(3)
        calls.extend([announce(1, 0, 0, [200]), announce(0, 0, 0, [100])])
        found = run(calls + [eligible_routes(1, 0, 0), eligible_routes(2, 0, 0)])
        self.assertEqual(found[-2:], [[1, 0], [2, 0, 1]])


if __name__ == "__main__":
    unittest.main()
