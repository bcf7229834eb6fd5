"""The document's points 1 to 7, asked of states that many calls have made, by what the program reports of them."""

import random
import unittest

from tests.helper import (
    LARGEST, MIXED_ASNS, MIXED_PREFIXES, add_member, announce, announced_prefixes, best_route, chosen_call,
    chosen_change, eligible_routes, full_exchange, is_better, lookup, member_policy, member_routes, preview_withdraw,
    reachable_addresses, reset, routing_table, run, set_export, set_import, set_preference, users_of, withdraw,
    withdraw_all,
)

MEMBERS = range(6)
REPORTS = (7, 8, 9, 10, 11, 12, 13, 15, 16, 17)


def in_threes(numbers):
    return [tuple(numbers[place:place + 3]) for place in range(0, len(numbers), 3)]


def routes_apart(numbers):
    """The (address, length, path) of each route from an answer of member_routes."""
    found = []
    place = 1
    while place < len(numbers):
        address, length, count = numbers[place:place + 3]
        found.append((address, length, numbers[place + 3:place + 3 + count]))
        place = place + 3 + count
    if len(found) != numbers[0]:
        raise ValueError("the count of the routes does not fit")
    return found


class Shown:
    """What is reported of the state behind some calls; two that report the same are equal."""

    def __init__(self, calls):
        reports = [report(member) for report in [member_policy, member_routes, routing_table] for member in MEMBERS]
        self.found = run(calls + reports + [announced_prefixes()])[len(calls):]
        self.asns = [found[0] for found in self.found[:6]]
        self.policies = [in_threes(found[1:]) for found in self.found[:6]]
        self.routes = [routes_apart(found) for found in self.found[6:12]]
        self.tables = [in_threes(found[1:]) for found in self.found[12:18]]

    def path(self, announcer, address, length):
        return [path for *prefix, path in self.routes[announcer] if prefix == [address, length]][0]

    def is_eligible(self, announcer, path, member):
        if announcer == member or self.asns[member] in path:
            return False
        return self.policies[announcer][member][0] == 0 and self.policies[member][announcer][1] == 0

    def eligible(self, member, address, length):
        """(preference, length of the path, ASN, announcer) of each eligible route for the prefix."""
        found = []
        for announcer in MEMBERS:
            for *prefix, path in self.routes[announcer]:
                if prefix == [address, length] and self.is_eligible(announcer, path, member):
                    preference = self.policies[member][announcer][2]
                    found.append((preference, len(path), self.asns[announcer], announcer))
        return found

    def rows(self, member):
        """The rows of the table with their paths."""
        return [(address, length, announcer, self.path(announcer, address, length))
                for address, length, announcer in self.tables[member]]

    def users(self, used):
        return [member for member in MEMBERS if any(row in used for row in self.tables[member])]


def begun_exchange():
    return [reset()] + [add_member(asn) for asn in MIXED_ASNS]


def states():
    """Lists of calls that lead to states of many kinds: an empty one, half full ones, a full one."""
    yield begun_exchange()
    yield full_exchange() + [add_member(500), add_member(600)]
    for seed in range(12):
        source = random.Random(seed)
        yield begun_exchange() + [chosen_change(source) for turn in range(15 + 10 * seed)]


def steps():
    """A list of calls, and a call that may come behind it."""
    for seed in range(4):
        source = random.Random(1000 + seed)
        calls = begun_exchange()
        for turn in range(80):
            call = chosen_call(source)
            yield calls, call
            calls = calls + [call]


class PoliciesAreRespected(unittest.TestCase):
    def test_every_route_of_a_table_is_eligible(self):
        rows = 0
        for calls in states():
            shown = Shown(calls)
            for member in MEMBERS:
                for address, length, announcer in shown.tables[member]:
                    rows = rows + 1
                    path = shown.path(announcer, address, length)
                    self.assertTrue(shown.is_eligible(announcer, path, member), (calls, member))
        self.assertGreater(rows, 100)

    def test_denying_takes_the_routes_out_of_the_table(self):
        calls = full_exchange() + [set_export(0, 1, 1), set_import(1, 2, 1), routing_table(1)]
        self.assertEqual(run(calls)[-1], [5, 0, 3, 3, 32, 3, 3, 64, 3, 3, 96, 3, 3, 128, 3, 3])
        self.assertEqual(run(calls + [set_import(1, 3, 1), routing_table(1)])[-2:], [[1, 1], [0]])


class NoHiddenPaths(unittest.TestCase):
    def test_table_has_the_best_for_every_prefix_with_an_eligible_route(self):
        for calls in states():
            shown = Shown(calls)
            for member in MEMBERS:
                announcers = {(address, length): announcer for address, length, announcer in shown.tables[member]}
                for address, length in MIXED_PREFIXES + [(0, 3), (128, 3)]:
                    eligible = shown.eligible(member, address, length)
                    chosen = [route for route in eligible if route[3] == announcers.get((address, length))]
                    self.assertEqual(len(chosen), min(len(eligible), 1), (calls, member))
                    self.assertFalse(any(is_better(other, chosen[0]) for other in eligible), (calls, member))

    def test_best_and_eligible_routes_agree_with_the_table(self):
        for calls in states():
            shown = Shown(calls)
            asked = [(member, *prefix) for member in MEMBERS for prefix in MIXED_PREFIXES]
            reports = [report(*place) for report in [best_route, eligible_routes] for place in asked]
            found = run(calls + reports)[len(calls):]
            best, ordered = found[:len(asked)], found[len(asked):]
            for place, (member, address, length) in enumerate(asked):
                rows = [row for row in shown.rows(member) if row[:2] == (address, length)]
                eligible = shown.eligible(member, address, length)
                self.assertEqual(best[place], [rows[0][2], len(rows[0][3])] + rows[0][3] if rows else [-33])
                self.assertEqual(ordered[place][0], len(eligible))
                self.assertEqual(ordered[place][1:2], [row[2] for row in rows])
                self.assertEqual(sorted(ordered[place][1:]), [route[3] for route in eligible])

    def test_who_may_not_use_the_best_gets_the_next(self):
        calls = full_exchange() + [set_export(0, 3, 1), set_import(2, 0, 1), announce(1, 0, 3, [200, 300])]
        found = run(calls + [routing_table(member) for member in range(4)])[-4:]
        self.assertEqual([answer[3] for answer in found], [2, 0, 3, 2])


class LongestPrefixMatch(unittest.TestCase):
    def test_every_address(self):
        for calls in states():
            shown = Shown(calls)
            for member in range(0, 6, 2):
                found = run(calls + [lookup(member, address) for address in range(256)])[len(calls):]
                for address, answer in enumerate(found):
                    matching = [row for row in shown.tables[member]
                                if address in range(row[0], row[0] + 2 ** (8 - row[1]))]
                    if matching:
                        self.assertIn((answer[1], answer[2], answer[0]), matching)
                        self.assertEqual(answer[2], max(row[1] for row in matching))
                    else:
                        self.assertEqual(answer, [-33])

    def test_reachable_addresses_are_those_that_a_lookup_finds(self):
        for calls in states():
            for member in range(1, 6, 2):
                found = run(calls + [lookup(member, address) for address in range(256)] + [reachable_addresses(member)])
                self.assertEqual(found[-1], [sum(answer != [-33] for answer in found[len(calls):-1])])


class UnusedRoutes(unittest.TestCase):
    def assert_users_change(self, calls, used, call):
        before, after = Shown(calls), Shown(calls + [call])
        users = before.users(used)
        for member in MEMBERS:
            if member not in users:
                self.assertEqual(after.rows(member), before.rows(member))
            else:
                self.assertNotEqual(after.rows(member), before.rows(member))
        self.assertEqual(run(calls + [call])[-1], [len(users)] + users)
        return len(users)

    def test_withdraw_and_its_preview(self):
        unused = 0
        for calls in states():
            for member, routes in enumerate(Shown(calls).routes):
                for address, length, path in routes[:2]:
                    call = withdraw(member, address, length)
                    count = self.assert_users_change(calls, [(address, length, member)], call)
                    unused = unused + int(count == 0)
                    found = run(calls + [preview_withdraw(member, address, length), call])
                    self.assertEqual(found[-2], found[-1])
        self.assertGreater(unused, 10)

    def test_withdraw_all(self):
        for calls in states():
            for member, routes in enumerate(Shown(calls).routes):
                used = [(address, length, member) for address, length, path in routes]
                self.assert_users_change(calls, used, withdraw_all(member))

    def test_users_are_those_whose_tables_have_a_route(self):
        for calls in states():
            shown = Shown(calls)
            found = run(calls + [users_of(member) for member in MEMBERS])[len(calls):]
            for member, answer in enumerate(found):
                users = shown.users([(address, length, member) for address, length, path in shown.routes[member]])
                self.assertEqual(answer, [len(users)] + users)


class LocalPolicies(unittest.TestCase):
    def test_every_policy_in_every_state(self):
        changed = 0
        for calls in states():
            before = Shown(calls)
            source = random.Random(len(calls))
            for policy, value in [(set_export, 1), (set_export, 0), (set_import, 1), (set_import, 0),
                                  (set_preference, 0), (set_preference, 9)]:
                member, peer = source.sample(MEMBERS, 2)
                after = Shown(calls + [policy(member, peer, value)])
                touched = peer if policy == set_export else member
                differ = [other for other in MEMBERS if before.rows(other) != after.rows(other)]
                self.assertIn(differ, ([], [touched]))
                self.assertEqual(run(calls + [policy(member, peer, value)])[-1], [len(differ)] + differ)
                changed = changed + len(differ)
        self.assertGreater(changed, 10)


class UniqueRoutes(unittest.TestCase):
    def test_each_prefix_once(self):
        for calls in states():
            shown = Shown(calls)
            for routes in shown.routes + shown.tables:
                prefixes = [route[:2] for route in routes]
                self.assertEqual(len(prefixes), len(set(prefixes)))
            self.assertLessEqual(sum(len(routes) for routes in shown.routes), 20)

    def test_tables_are_in_prefix_order(self):
        for calls in states():
            for table in Shown(calls).tables:
                self.assertEqual(table, sorted(table, key=lambda row: row[:2]))

    def test_announced_prefixes_are_those_of_the_routes(self):
        for calls in states():
            shown = Shown(calls)
            prefixes = sorted({route[:2] for routes in shown.routes for route in routes})
            expected = [len(prefixes)] + [number for prefix in prefixes for number in prefix]
            self.assertEqual(run(calls + [announced_prefixes()])[-1], expected)

    def test_announced_again_and_again(self):
        paths = [[100, 7], [100], [100, 8, 9], [100]]
        calls = begun_exchange() + [announce(0, 0, 1, path) for path in paths] + [announce(1, 0, 1, [50])]
        found = run(calls + [member_routes(0), routing_table(2), routing_table(1), announced_prefixes()])
        self.assertEqual(found[-4:], [[1, 0, 1, 1, 100], [1, 0, 1, 1], [1, 0, 1, 0], [1, 0, 1]])


class StateIsLeftUnchanged(unittest.TestCase):
    def test_refused_calls_and_reports_among_others(self):
        refused, reported = set(), set()
        for calls, call in steps():
            answered = run(calls + [call])[-1]
            if answered[0] < 0 or call[0] in REPORTS:
                self.assertEqual(Shown(calls).found, Shown(calls + [call]).found, call)
                (refused if answered[0] < 0 else reported).add(call[0])
        self.assertEqual(reported, set(REPORTS))
        self.assertLessEqual({2, 3, 4, 5, 6, 7, 10, 13}, refused)

    def test_every_report_in_every_state(self):
        reports = [best_route(0, 0, 0), eligible_routes(0, 0, 0), routing_table(0), lookup(0, 0), users_of(0),
                   reachable_addresses(0), announced_prefixes(), member_routes(0), member_policy(0)]
        reports.extend([preview_withdraw(member, address, length)
                        for member in MEMBERS for address, length in MIXED_PREFIXES])
        for calls in states():
            self.assertEqual(Shown(calls).found, Shown(calls + reports).found)
            found = run(calls + reports + reports)
            self.assertEqual(found[len(calls):len(calls) + len(reports)], found[-len(reports):])

    def test_every_refusal_in_every_state(self):
        calls_refused = [
            add_member(0), add_member(10000), add_member(100), add_member(77),
            announce(6, 0, 0, [100]), announce(0, 1, 0, [100]), announce(0, 0, 0, []), announce(0, 0, 0, [LARGEST]),
            withdraw(6, 0, 0), withdraw(0, 1, 0), withdraw(0, 254, 8),
            set_export(0, 6, 1), set_export(0, 0, 1), set_export(0, 1, 2),
            set_import(6, 0, 1), set_import(0, 0, 1), set_import(0, 1, 2),
            set_preference(0, 6, 1), set_preference(1, 1, 1), set_preference(0, 1, 10),
            best_route(6, 0, 0), best_route(0, 1, 0), best_route(0, 254, 8),
            eligible_routes(6, 0, 0), eligible_routes(0, 0, 9), routing_table(6), lookup(6, 0), lookup(0, 256),
            reachable_addresses(6), users_of(6), preview_withdraw(6, 0, 0), preview_withdraw(0, 1, 0),
            preview_withdraw(0, 254, 8), withdraw_all(6), member_routes(6), member_policy(6),
        ]
        for calls in states():
            found = run(calls + calls_refused)[len(calls):]
            self.assertEqual([answer for answer in found if answer[0] >= 0 or len(answer) > 1], [])
            self.assertEqual(Shown(calls).found, Shown(calls + calls_refused).found)


class ChangedMembers(unittest.TestCase):
    def test_they_are_those_whose_tables_differ(self):
        for calls, call in steps():
            before, after = Shown(calls), Shown(calls + [call])
            differ = [member for member in MEMBERS if before.rows(member) != after.rows(member)]
            answered = run(calls + [call])[-1]
            if answered[0] < 0 or call[0] in REPORTS:
                self.assertEqual(differ, [])
            else:
                self.assertEqual(answered, [len(differ)] + differ)


if __name__ == "__main__":
    unittest.main()
