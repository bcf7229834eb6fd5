"""What the tests share: calls by their names, their answers apart from one another, and the state they show."""

import unittest

from nohiddenpaths.exchange import answers

LARGEST = 4294967295
MOST_CALLS = 400

WRONG_PREFIXES = [
    (1, 0), (128, 0), (255, 0), (256, 0), (1, 1), (64, 1), (127, 1), (129, 1), (256, 1), (32, 2), (254, 6), (1, 7),
    (255, 7), (256, 8), (512, 8), (LARGEST, 8), (4294967040, 0), (0, 9), (0, 255), (0, LARGEST), (LARGEST, LARGEST),
]


def reset():
    return [0]


def add_member(asn):
    return [1, asn]


def announce(member, address, length, as_path):
    return [2, member, address, length, len(as_path)] + as_path


def withdraw(member, address, length):
    return [3, member, address, length]


def set_export(member, peer, denied):
    return [4, member, peer, denied]


def set_import(member, peer, denied):
    return [5, member, peer, denied]


def set_preference(member, peer, preference):
    return [6, member, peer, preference]


def best_route(member, address, length):
    return [7, member, address, length]


def eligible_routes(member, address, length):
    return [8, member, address, length]


def routing_table(member):
    return [9, member]


def lookup(member, destination):
    return [10, member, destination]


def reachable_addresses(member):
    return [11, member]


def users_of(member):
    return [12, member]


def preview_withdraw(member, address, length):
    return [13, member, address, length]


def withdraw_all(member):
    return [14, member]


def announced_prefixes():
    return [15]


def member_routes(member):
    return [16, member]


def member_policy(member):
    return [17, member]


def apart(answered):
    """The answers of the calls one by one, from the list that `answers` gives back."""
    found = []
    place = 0
    while place < len(answered):
        first = place + 1
        place = first + answered[place]
        if place > len(answered) or place == first:
            raise ValueError("the counts of the answers do not fit")
        found.append(answered[first:place])
    return found


def run(calls):
    """The answers of calls, each of which is a list of its own."""
    found = apart(answers([number for call in calls for number in call]))
    if len(calls) > MOST_CALLS or len(found) != len(calls):
        raise ValueError("not one answer for each of at most 400 calls")
    return found


def exchange_of(count):
    """A reset, and members with the ASNs 100, 200, 300 .."""
    return [reset()] + [add_member(100 * (member + 1)) for member in range(count)]


def full_exchange():
    """Four members and twenty routes: the prefixes of length 3 from 0 to 128, by each member."""
    calls = exchange_of(4)
    for address in range(0, 160, 32):
        for member in range(4):
            calls.append(announce(member, address, 3, [100 * (member + 1)]))
    return calls


PROBED_PREFIXES = [(0, 0), (0, 1), (128, 1), (0, 3), (128, 3), (255, 8)]
PROBED_ADDRESSES = [0, 31, 32, 127, 128, 255]


def probes():
    """Calls whose answers show the state: all that is reported, then the free room for routes and members."""
    calls = [announced_prefixes()]
    for member in range(6):
        calls.extend([member_policy(member), member_routes(member), routing_table(member), users_of(member)])
        calls.append(reachable_addresses(member))
        calls.extend([eligible_routes(member, address, length) for address, length in PROBED_PREFIXES])
        calls.extend([lookup(member, destination) for destination in PROBED_ADDRESSES])
    for member in range(6):
        calls.append(announce(member, 64, 2, [100 * (member + 1)]))
    calls.extend([add_member(9000 + number) for number in range(6)])
    calls.extend([eligible_routes(member, 64, 2) for member in range(6)])
    return calls


# ASNs that do not rise with the index, and prefixes of which some lie within others.
MIXED_ASNS = [100, 50, 9999, 1, 300, 20]
MIXED_PREFIXES = [(0, 0), (0, 1), (128, 1), (0, 2), (64, 2), (255, 8)]


def chosen_path(source, member):
    path = [MIXED_ASNS[member % 6]] + source.sample(MIXED_ASNS + [7, 8, 9], source.randrange(4))
    if source.random() < 0.1:
        path.append(source.choice([0, 10000, LARGEST, path[0]]))
    return path if source.random() < 0.95 else path[1:]


def chosen_member(source):
    return source.randrange(6) if source.random() < 0.97 else source.choice([6, LARGEST])


def chosen_prefix(source):
    return source.choice(MIXED_PREFIXES) if source.random() < 0.95 else source.choice([(1, 0), (256, 8), (0, 9)])


def chosen_change(source):
    """A call that changes the state: mostly one that is accepted, and now and then one that is not."""
    member, peer = chosen_member(source), chosen_member(source)
    address, length = chosen_prefix(source)
    kind = source.randrange(20)
    if kind < 9:
        return announce(member, address, length, chosen_path(source, member))
    if kind < 11:
        return withdraw(member, address, length)
    if kind < 15:
        return source.choice([set_export, set_import])(member, peer, source.choice([0, 1, 1, 1, 2]))
    if kind < 19:
        return set_preference(member, peer, source.choice([0, 4, 5, 6, 9, 10]))
    return withdraw_all(member)


def chosen_report(source):
    """A call that only reports, now and then one that is refused."""
    member = chosen_member(source)
    address, length = chosen_prefix(source)
    kind = source.randrange(10)
    if kind < 3:
        return source.choice([best_route, eligible_routes, preview_withdraw])(member, address, length)
    if kind == 3:
        return lookup(member, source.choice([0, 63, 64, 127, 128, 254, 255, 256, LARGEST]))
    if kind == 4:
        return announced_prefixes()
    return source.choice([routing_table, reachable_addresses, users_of, member_routes, member_policy])(member)


def chosen_call(source):
    return source.choice([chosen_change, chosen_report])(source)


def is_better(first, second):
    """Whether the first is the better route; each begins with preference, number of elements of the path, ASN."""
    if first[0] != second[0]:
        return first[0] > second[0]
    if first[1] != second[1]:
        return first[1] < second[1]
    return first[2] < second[2]


class ExchangeCase(unittest.TestCase):
    def assert_last(self, calls, expected):
        self.assertEqual(run(calls)[-1], expected)

    def assert_refused(self, calls, refused, code):
        """The call behind the others answers the code alone and leaves the state as it was."""
        found = run(calls + [refused] + probes())
        self.assertEqual(found[len(calls)], [code])
        without = run(calls + probes())
        self.assertEqual(found[:len(calls)] + found[len(calls) + 1:], without)

    def assert_unchanged(self, calls, report):
        """The call behind the others is not refused and leaves the state as it was."""
        found = run(calls + [report] + probes())
        self.assertGreaterEqual(found[len(calls)][0], 0)
        without = run(calls + probes())
        self.assertEqual(found[:len(calls)] + found[len(calls) + 1:], without)
