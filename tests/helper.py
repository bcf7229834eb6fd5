"""What the tests share: calls by their names, and their answers apart from one another."""

import unittest

from nohiddenpaths.exchange import answers

LARGEST = 4294967295

WRONG_PREFIXES = [
    (1, 0), (128, 0), (255, 0), (256, 0), (1, 1), (64, 1), (127, 1), (129, 1), (256, 1), (32, 2), (254, 6), (1, 7),
    (255, 7), (256, 8), (512, 8), (LARGEST, 8), (4294967040, 0), (0, 9), (0, 255), (0, LARGEST), (LARGEST, LARGEST),
]


def reset():
    return [0]


def add_member(asn):
    return [1, asn]


def announce(member, address, length, as_path):
    return [2, member, address, length, len(as_path)] + as_path


def withdraw(member, address, length):
    return [3, member, address, length]


def set_export(member, peer, denied):
    return [4, member, peer, denied]


def set_import(member, peer, denied):
    return [5, member, peer, denied]


def set_preference(member, peer, preference):
    return [6, member, peer, preference]


def best_route(member, address, length):
    return [7, member, address, length]


def eligible_routes(member, address, length):
    return [8, member, address, length]


def apart(answered):
    """The answers of the calls one by one, from the list that `answers` gives back."""
    found = []
    place = 0
    while place < len(answered):
        first = place + 1
        place = first + answered[place]
        if place > len(answered) or place == first:
            raise ValueError("the counts of the answers do not fit")
        found.append(answered[first:place])
    return found


def run(calls):
    """The answers of calls, each of which is a list of its own."""
    found = apart(answers([number for call in calls for number in call]))
    if len(calls) > 400 or len(found) != len(calls):
        raise ValueError("not one answer for each of at most 400 calls")
    return found


def exchange_of(count):
    """A reset, and members with the ASNs 100, 200, 300 .."""
    return [reset()] + [add_member(100 * (member + 1)) for member in range(count)]


def full_exchange():
    """Four members and twenty routes: the prefixes of length 3 from 0 to 128, by each member."""
    calls = exchange_of(4)
    for address in range(0, 160, 32):
        for member in range(4):
            calls.append(announce(member, address, 3, [100 * (member + 1)]))
    return calls


PROBED_PREFIXES = [(0, 0), (0, 1), (128, 1), (0, 3), (128, 3), (255, 8)]


def probes():
    """Calls whose answers show the state: the routes as they are, then policies and the free room for members."""
    calls = []
    for member in range(6):
        for address, length in PROBED_PREFIXES:
            calls.append(best_route(member, address, length))
            calls.append(eligible_routes(member, address, length))
    for member in range(6):
        for address, length in PROBED_PREFIXES:
            calls.append(withdraw(member, address, length))
    for member in range(6):
        calls.append(announce(member, 64, 2, [100 * (member + 1)]))
    calls.extend([eligible_routes(member, 64, 2) for member in range(6)])
    calls.extend([add_member(9000 + number) for number in range(6)])
    return calls


class ExchangeCase(unittest.TestCase):
    def assert_last(self, calls, expected):
        self.assertEqual(run(calls)[-1], expected)

    def assert_refused(self, calls, refused, code):
        """The call behind the others answers the code alone and leaves the state as it was."""
        found = run(calls + [refused] + probes())
        self.assertEqual(found[len(calls)], [code])
        without = run(calls + probes())
        self.assertEqual(found[:len(calls)] + found[len(calls) + 1:], without)
