"""Long mixed sequences against a model that follows the document's words, without the program's own parts."""

import random
import unittest

from nohiddenpaths.exchange import answers
from tests.helper import (
    MIXED_ASNS, MIXED_PREFIXES, MOST_CALLS, add_member, announce, announced_prefixes, apart, best_route, chosen_call,
    chosen_report, eligible_routes, is_better, lookup, member_policy, member_routes, preview_withdraw,
    reachable_addresses, reset, routing_table, run, set_export, set_import, set_preference, users_of, withdraw,
    withdraw_all,
)


def counted(numbers):
    return [len(numbers)] + numbers


def found_prefix(table, destination):
    """The prefix that a lookup finds: the longest ones are tried first."""
    for length in range(8, -1, -1):
        prefix = (destination - destination % 2 ** (8 - length), length)
        if prefix in table:
            return prefix
    return None


class Model:
    """The state after a reset; routes stand in the order in which they were appended."""

    def __init__(self):
        self.asns = []
        self.routes = {}
        self.no_export = set()
        self.no_import = set()
        self.preferences = {}

    def eligible(self, member, prefix):
        found = []
        for (announcer, announced), path in self.routes.items():
            if announced == prefix and announcer != member and self.asns[member] not in path:
                if (announcer, member) not in self.no_export and (member, announcer) not in self.no_import:
                    found.append(announcer)
        return found

    def strength(self, member, announcer, prefix):
        path = self.routes[(announcer, prefix)]
        return (self.preferences.get((member, announcer), 5), len(path), self.asns[announcer])

    def best_first(self, member, prefix):
        left = self.eligible(member, prefix)
        ordered = []
        while left:
            best = left[0]
            for other in left:
                if is_better(self.strength(member, other, prefix), self.strength(member, best, prefix)):
                    best = other
            left.remove(best)
            ordered.append(best)
        return ordered

    def prefixes(self):
        return sorted({prefix for announcer, prefix in self.routes})

    def table(self, member):
        """By prefix, in prefix order: the announcer and the path."""
        found = {}
        for prefix in self.prefixes():
            ordered = self.best_first(member, prefix)
            if ordered:
                found[prefix] = (ordered[0], self.routes[(ordered[0], prefix)])
        return found

    def tables(self):
        return [self.table(member) for member in range(len(self.asns))]

    def exists(self, *members):
        return all(member < len(self.asns) for member in members)

    def refusal(self, call):
        """The first error in the document's order, or 0."""
        number, rest = call[0], call[1:]
        if number == 15:
            return 0
        if number == 1:
            return self.refusal_of_member(rest[0])
        if number in (4, 5, 6):
            return self.refusal_of_policy(number, rest)
        if not self.exists(rest[0]):
            return -2
        if number in (2, 3, 7, 8, 13):
            return self.refusal_of_prefix(number, rest)
        if number == 10:
            return self.refusal_of_lookup(rest)
        return 0

    def refusal_of_member(self, asn):
        if asn < 1 or asn > 9999:
            return -22
        if asn in self.asns:
            return -17
        return -28 if len(self.asns) == 6 else 0

    def refusal_of_policy(self, number, rest):
        member, peer, value = rest
        if not self.exists(member, peer):
            return -2
        return -22 if member == peer or value > (9 if number == 6 else 1) else 0

    def refusal_of_prefix(self, number, rest):
        member, address, length = rest[:3]
        if length > 8 or address > 255 or address % 2 ** (8 - length) != 0:
            return -22
        known = (member, (address, length)) in self.routes
        if number == 2:
            if not self.accepts_path(member, rest[4:]):
                return -22
            return -28 if not known and len(self.routes) == 20 else 0
        if number in (3, 13):
            return 0 if known else -6
        if number == 7 and not self.eligible(member, (address, length)):
            return -33
        return 0

    def accepts_path(self, member, path):
        if not 1 <= len(path) <= 6 or path[0] != self.asns[member] or len(set(path)) < len(path):
            return False
        return min(path) >= 1 and max(path) <= 9999

    def refusal_of_lookup(self, rest):
        if rest[1] > 255:
            return -22
        return -33 if found_prefix(self.table(rest[0]), rest[1]) is None else 0

    def apply(self, number, rest):
        if number == 2:
            self.routes[(rest[0], (rest[1], rest[2]))] = rest[4:]
        if number in (3, 13):
            self.routes.pop((rest[0], (rest[1], rest[2])))
        if number in (4, 5):
            denials = self.no_export if number == 4 else self.no_import
            denials.discard((rest[0], rest[1]))
            if rest[2] == 1:
                denials.add((rest[0], rest[1]))
        if number == 6:
            self.preferences[(rest[0], rest[1])] = rest[2]
        if number == 14:
            self.routes = {key: path for key, path in self.routes.items() if key[0] != rest[0]}

    def answer(self, call):
        number, rest = call[0], call[1:]
        refused = self.refusal(call)
        if refused:
            return [refused]
        if number == 1:
            self.asns.append(rest[0])
            return [len(self.asns) - 1]
        if number in (7, 8, 9, 10, 11, 12, 15, 16, 17):
            return self.report(number, rest)
        routes, before = dict(self.routes), self.tables()
        self.apply(number, rest)
        changed = [member for member, table in enumerate(self.tables()) if table != before[member]]
        if number == 13:
            self.routes = routes
        return counted(changed)

    def report(self, number, rest):
        if number in (7, 8):
            prefix = (rest[1], rest[2])
            ordered = self.best_first(rest[0], prefix)
            return counted(ordered) if number == 8 else ordered[:1] + counted(self.routes[(ordered[0], prefix)])
        if number == 9:
            table = self.table(rest[0])
            return [len(table)] + [field for prefix in table for field in [*prefix, table[prefix][0]]]
        if number == 10:
            table = self.table(rest[0])
            prefix = found_prefix(table, rest[1])
            return [table[prefix][0], *prefix]
        if number == 11:
            table = self.table(rest[0])
            return [sum(found_prefix(table, address) is not None for address in range(256))]
        if number == 12:
            return counted([user for user, table in enumerate(self.tables())
                            if rest[0] in [announcer for announcer, path in table.values()]])
        if number == 15:
            return [len(self.prefixes())] + [field for prefix in self.prefixes() for field in prefix]
        if number == 16:
            own = [(prefix, path) for (announcer, prefix), path in self.routes.items() if announcer == rest[0]]
            return [len(own)] + [field for prefix, path in own for field in [*prefix, *counted(path)]]
        fields = [self.asns[rest[0]]]
        for peer in range(len(self.asns)):
            fields.append(int((rest[0], peer) in self.no_export))
            fields.append(int((rest[0], peer) in self.no_import))
            fields.append(self.preferences.get((rest[0], peer), 5))
        return fields


def chosen_calls(seed):
    """A reset, few members at first and all of them later: as many calls as may be handed in."""
    source = random.Random(seed)
    calls = [reset()] + [add_member(asn) for asn in MIXED_ASNS[:2 + seed % 5]]
    calls.extend([chosen_call(source) for turn in range(150)])
    calls.extend([add_member(asn) for asn in MIXED_ASNS])
    while len(calls) < MOST_CALLS:
        calls.append(chosen_call(source))
    return calls


def filled_exchange(seed):
    """Six members and twenty routes, with some policies that are not the initial ones."""
    source = random.Random(seed)
    places = [(member, prefix) for member in range(6) for prefix in MIXED_PREFIXES]
    calls = [reset()] + [add_member(asn) for asn in MIXED_ASNS]
    for member, (address, length) in source.sample(places, 20):
        path = [MIXED_ASNS[member]] + source.sample([7, 8, 9, MIXED_ASNS[member - 1]], source.randrange(4))
        calls.append(announce(member, address, length, path))
    for policy, value in [(set_export, 1), (set_import, 1), (set_preference, 8), (set_preference, 2)]:
        member, peer = source.sample(range(6), 2)
        calls.append(policy(member, peer, value))
    return calls


class MixedSequences(unittest.TestCase):
    def assert_model_agrees(self, calls, seed):
        model = Model()
        self.assertEqual(run(calls)[1:], [model.answer(call) for call in calls[1:]], seed)

    def test_changes_and_reports(self):
        for seed in range(60):
            calls = chosen_calls(seed)
            self.assertEqual(len(calls), MOST_CALLS)
            self.assert_model_agrees(calls, seed)

    def test_every_call_and_every_code_occurs(self):
        accepted, codes = set(), set()
        for seed in range(60):
            for call, found in zip(chosen_calls(seed), run(chosen_calls(seed))):
                if found[0] < 0:
                    codes.add(found[0])
                else:
                    accepted.add(call[0])
        self.assertEqual(accepted, set(range(18)))
        self.assertEqual(codes, {-2, -6, -17, -22, -28, -33})


class MostCalls(unittest.TestCase):
    """Lists of 400 calls, with six members and twenty routes."""

    def assert_model_agrees(self, calls, seed=0):
        self.assertEqual(len(calls), MOST_CALLS)
        model = Model()
        expected = [model.answer(call) for call in calls[1:]]
        self.assertEqual([len(model.asns), len(model.routes)], [6, 20])
        self.assertEqual(run(calls)[1:], expected, seed)

    def test_every_report_among_them(self):
        for seed in range(20):
            source = random.Random(seed)
            calls = filled_exchange(seed)
            while len(calls) < MOST_CALLS:
                calls.append(chosen_report(source))
            self.assertEqual({call[0] for call in calls}, {0, 1, 2, 4, 5, 6, 7, 8, 9, 10, 11, 12, 13, 15, 16, 17})
            self.assert_model_agrees(calls, seed)

    def test_one_report_all_the_way(self):
        for report in [best_route(3, 0, 1), eligible_routes(3, 0, 1), routing_table(3), lookup(3, 70),
                       reachable_addresses(3), users_of(3), announced_prefixes(), member_routes(3), member_policy(3)]:
            calls = filled_exchange(1)
            self.assert_model_agrees(calls + [report] * (MOST_CALLS - len(calls)))

    def test_every_address_looked_up(self):
        for seed in range(6):
            calls = filled_exchange(seed)
            calls.extend([lookup(seed, destination) for destination in range(256)])
            calls.extend([reachable_addresses(member) for member in range(6)] * 20)
            self.assert_model_agrees(calls[:MOST_CALLS], seed)

    def test_every_withdrawal_tried_out(self):
        previews = [preview_withdraw(member, address, length)
                    for member in range(6) for address, length in MIXED_PREFIXES]
        reports = [report(member) for report in [routing_table, users_of, member_routes] for member in range(6)]
        for seed in range(6):
            calls = filled_exchange(seed) + (previews + reports) * 7
            self.assert_model_agrees(calls[:MOST_CALLS], seed)

    def test_routes_withdrawn_and_announced_again(self):
        calls = filled_exchange(2)
        announced = [call for call in calls if call[0] == 2]
        for call in announced:
            calls.extend([withdraw(call[1], call[2], call[3]), call, member_routes(call[1])])
        calls.append(withdraw_all(4))
        calls.extend([call for call in announced if call[1] == 4])
        while len(calls) < MOST_CALLS:
            calls.append(routing_table(len(calls) % 6))
        self.assert_model_agrees(calls)

    def test_as_many_numbers_as_may_be_handed_in(self):
        longest = announce(0, 0, 0, [100, 1, 2, 3, 4, 5, 6, 7])
        self.assertEqual(len(longest) * MOST_CALLS, 5200)
        self.assertEqual(apart(answers(longest * MOST_CALLS)), [[-11]] * MOST_CALLS)
        found = apart(answers([0, 1, 100] + longest * (MOST_CALLS - 2)))
        self.assertEqual(found, [[0], [0]] + [[-22]] * (MOST_CALLS - 2))

    def test_resets_all_the_way(self):
        self.assertEqual(run([reset(), add_member(100)] * 200), [[0], [0]] * 200)


if __name__ == "__main__":
    unittest.main()
