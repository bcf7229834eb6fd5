"""The one list in, the one list out, and the time before the first reset."""

import unittest

from nohiddenpaths.exchange import answers
from tests.helper import (
    LARGEST, ExchangeCase, add_member, announce, best_route, eligible_routes, exchange_of, reset, run,
    set_export, set_import, set_preference, withdraw,
)

EVERY_CALL_BUT_RESET = [
    add_member(100), announce(0, 0, 1, [100]), withdraw(0, 0, 1), set_export(0, 1, 1), set_import(0, 1, 1),
    set_preference(0, 1, 9), best_route(0, 0, 1), eligible_routes(0, 0, 1),
]

EXAMPLE = [
    (reset(), [0]),
    (add_member(100), [0]),
    (add_member(200), [1]),
    (add_member(300), [2]),
    (announce(0, 0, 1, [100]), [2, 1, 2]),
    (announce(1, 0, 2, [200, 900]), [2, 0, 2]),
    (set_import(2, 1, 1), [1, 2]),
    (announce(0, 1, 1, [100]), [-22]),
    (withdraw(1, 0, 2), [1, 0]),
]


class Form(unittest.TestCase):
    def test_counts_stand_before_the_answers(self):
        calls = [0, 1, 100, 1, 200, 2, 0, 0, 1, 2, 100, 900, 7, 1, 0, 1, 8, 1, 0, 1, 8, 0, 0, 1, 3, 5, 0, 0]
        self.assertEqual(
            answers(calls),
            [1, 0, 1, 0, 1, 1, 2, 1, 1, 4, 0, 2, 100, 900, 2, 1, 0, 1, 0, 1, -2])

    def test_answers_are_plain_whole_numbers_in_a_list(self):
        found = answers([number for call, expected in EXAMPLE for number in call])
        self.assertIs(type(found), list)
        self.assertEqual({type(number) for number in found}, {int})

    def test_document_example(self):
        self.assertEqual(run([call for call, expected in EXAMPLE]), [expected for call, expected in EXAMPLE])

    def test_path_of_any_length_does_not_shift_the_calls_behind_it(self):
        for count in range(9):
            path = [100 + number for number in range(count)]
            found = run(exchange_of(1) + [announce(0, 0, 0, path), add_member(77)])
            self.assertEqual(found[2], [0] if 1 <= count <= 6 else [-22])
            self.assertEqual(found[3], [1])


class HandedIn(unittest.TestCase):
    def setUp(self):
        self.calls = [number for call, expected in EXAMPLE for number in call]
        self.calls.extend(announce(0, 0, 1, [100, 101]) + best_route(1, 0, 1) + best_route(1, 0, 1))

    def test_list_is_unchanged(self):
        as_handed_in = list(self.calls)
        answers(self.calls)
        self.assertEqual(self.calls, as_handed_in)

    def test_second_time_answers_the_same(self):
        first = answers(self.calls)
        kept = list(first)
        self.assertEqual(answers(self.calls), kept)
        self.assertEqual(first, kept)

    def test_nothing_is_kept(self):
        answers(self.calls)
        self.assertEqual(run([eligible_routes(0, 0, 1)]), [[-11]])
        self.assertEqual(run([reset(), add_member(100)]), [[0], [0]])


class BeforeReset(unittest.TestCase):
    def test_each_call_alone(self):
        for call in EVERY_CALL_BUT_RESET:
            self.assertEqual(run([call]), [[-11]])

    def test_calls_whose_answers_are_not_written_yet(self):
        for call in [[9, 0], [10, 0, 300], [11, 0], [12, 0], [13, 0, 0, 1], [14, 0], [15], [16, 0], [17, 0]]:
            self.assertEqual(run([call, add_member(100), reset(), add_member(100)]), [[-11], [-11], [0], [0]])

    def test_comes_before_every_other_error(self):
        for call in [add_member(0), add_member(LARGEST), announce(9, 1, 1, []), announce(0, 300, 9, [0] * 8),
                     withdraw(9, 1, 9), set_export(0, 0, 2), set_import(9, 9, 2), set_preference(0, 0, 10),
                     best_route(LARGEST, 1, 1), eligible_routes(LARGEST, 1, 1)]:
            self.assertEqual(run([call]), [[-11]])

    def test_calls_before_reset_leave_nothing(self):
        found = run(EVERY_CALL_BUT_RESET + [reset(), add_member(100)])
        self.assertEqual(found, [[-11]] * 8 + [[0], [0]])


class Reset(ExchangeCase):
    def test_reset_answers_0(self):
        self.assertEqual(run([reset()]), [[0]])
        self.assertEqual(run([reset(), reset()]), [[0], [0]])

    def test_reset_again_replaces_members_and_routes(self):
        calls = exchange_of(3) + [announce(0, 0, 0, [100]), reset()]
        self.assert_last(calls + [best_route(1, 0, 0)], [-2])
        self.assert_last(calls + [add_member(300)], [0])
        self.assert_last(calls + [add_member(100), add_member(200), eligible_routes(1, 0, 0)], [0])
        self.assert_last(calls + [add_member(100), withdraw(0, 0, 0)], [-6])

    def test_reset_again_replaces_policies(self):
        calls = exchange_of(3) + [set_export(0, 1, 1), set_import(2, 0, 1), set_preference(2, 1, 0)] + exchange_of(3)
        calls.extend([announce(1, 0, 0, [200]), announce(0, 0, 0, [100])])
        found = run(calls + [eligible_routes(1, 0, 0), eligible_routes(2, 0, 0)])
        self.assertEqual(found[-2:], [[1, 0], [2, 0, 1]])


if __name__ == "__main__":
    unittest.main()
