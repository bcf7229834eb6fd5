"""Long mixed sequences against a model that follows the document's words, without the program's own parts."""

import random
import unittest

from tests.helper import (
    LARGEST, add_member, announce, best_route, eligible_routes, reset, run,
    set_export, set_import, set_preference, withdraw,
)

ASNS = [100, 50, 9999, 1, 300, 20]
PREFIXES = [(0, 0), (0, 1), (128, 1), (0, 2), (255, 8)]


def is_better(first, second):
    """Each of the two is (preference, number of elements of the path, ASN)."""
    if first[0] != second[0]:
        return first[0] > second[0]
    if first[1] != second[1]:
        return first[1] < second[1]
    return first[2] < second[2]


class Model:
    """The state after a reset, and which calls the document accepts."""

    def __init__(self):
        self.asns = []
        self.routes = {}
        self.no_export = set()
        self.no_import = set()
        self.preferences = {}

    def eligible(self, member, prefix):
        found = []
        for (announcer, announced), path in self.routes.items():
            if announced == prefix and announcer != member and self.asns[member] not in path:
                if (announcer, member) not in self.no_export and (member, announcer) not in self.no_import:
                    found.append(announcer)
        return found

    def strength(self, member, announcer, prefix):
        path = self.routes[(announcer, prefix)]
        return (self.preferences.get((member, announcer), 5), len(path), self.asns[announcer])

    def best_first(self, member, prefix):
        left = self.eligible(member, prefix)
        ordered = []
        while left:
            best = left[0]
            for other in left:
                if is_better(self.strength(member, other, prefix), self.strength(member, best, prefix)):
                    best = other
            left.remove(best)
            ordered.append(best)
        return ordered

    def table(self, member):
        found = {}
        for prefix in {prefix for announcer, prefix in self.routes}:
            ordered = self.best_first(member, prefix)
            if ordered:
                found[prefix] = (ordered[0], self.routes[(ordered[0], prefix)])
        return found

    def exists(self, *members):
        return all(member < len(self.asns) for member in members)

    def refusal(self, call):
        """The first error in the document's order, or 0."""
        number, rest = call[0], call[1:]
        if number == 1:
            return self.refusal_of_member(rest[0])
        if number in (4, 5, 6):
            return self.refusal_of_policy(number, rest)
        member, address, length = rest[:3]
        if not self.exists(member):
            return -2
        if length > 8 or address > 255 or address % 2 ** (8 - length) != 0:
            return -22
        known = (member, (address, length)) in self.routes
        if number == 2:
            path = rest[4:]
            if not 1 <= len(path) <= 6 or path[0] != self.asns[member] or len(set(path)) < len(path):
                return -22
            if min(path) < 1 or max(path) > 9999:
                return -22
            return -28 if not known and len(self.routes) == 20 else 0
        if number == 3:
            return 0 if known else -6
        if number == 7 and not self.eligible(member, (address, length)):
            return -33
        return 0

    def refusal_of_member(self, asn):
        if asn < 1 or asn > 9999:
            return -22
        if asn in self.asns:
            return -17
        return -28 if len(self.asns) == 6 else 0

    def refusal_of_policy(self, number, rest):
        member, peer, value = rest
        if not self.exists(member, peer):
            return -2
        return -22 if member == peer or value > (9 if number == 6 else 1) else 0

    def apply(self, number, rest):
        if number == 2:
            self.routes[(rest[0], (rest[1], rest[2]))] = rest[4:]
        if number == 3:
            self.routes.pop((rest[0], (rest[1], rest[2])))
        if number in (4, 5):
            denials = self.no_export if number == 4 else self.no_import
            denials.discard((rest[0], rest[1]))
            if rest[2] == 1:
                denials.add((rest[0], rest[1]))
        if number == 6:
            self.preferences[(rest[0], rest[1])] = rest[2]

    def answer(self, call):
        number, rest = call[0], call[1:]
        refused = self.refusal(call)
        if refused:
            return [refused]
        if number == 1:
            self.asns.append(rest[0])
            return [len(self.asns) - 1]
        if number in (7, 8):
            ordered = self.best_first(rest[0], (rest[1], rest[2]))
            if number == 8:
                return [len(ordered)] + ordered
            path = self.routes[(ordered[0], (rest[1], rest[2]))]
            return [ordered[0], len(path)] + path
        before = [self.table(member) for member in range(len(self.asns))]
        self.apply(number, rest)
        changed = [member for member, table in enumerate(before) if table != self.table(member)]
        return [len(changed)] + changed


def chosen_path(source, member):
    path = [ASNS[member % 6]] + source.sample(ASNS + [7, 8, 9], source.randrange(4))
    if source.random() < 0.1:
        path.append(source.choice([0, 10000, LARGEST, path[0]]))
    return path if source.random() < 0.95 else path[1:]


def chosen_call(source):
    """Mostly calls that are accepted, and now and then one that is not."""
    member = source.randrange(6) if source.random() < 0.97 else source.choice([6, LARGEST])
    peer = source.randrange(6) if source.random() < 0.97 else source.choice([6, LARGEST])
    address, length = source.choice(PREFIXES) if source.random() < 0.95 else source.choice([(1, 0), (256, 8), (0, 9)])
    kind = source.randrange(12)
    if kind < 4:
        return announce(member, address, length, chosen_path(source, member))
    if kind == 4:
        return withdraw(member, address, length)
    if kind < 7:
        return source.choice([set_export, set_import])(member, peer, source.choice([0, 1, 1, 1, 2]))
    if kind < 9:
        return set_preference(member, peer, source.choice([0, 4, 5, 6, 9, 10]))
    return source.choice([best_route, eligible_routes])(member, address, length)


def chosen_calls(seed):
    source = random.Random(seed)
    calls = [add_member(asn) for asn in ASNS[:2 + seed % 5]]
    calls.extend([chosen_call(source) for turn in range(150)])
    calls.extend([add_member(asn) for asn in ASNS])
    calls.extend([chosen_call(source) for turn in range(200)])
    return calls


class MixedSequences(unittest.TestCase):
    def test_model_agrees(self):
        for seed in range(60):
            calls = chosen_calls(seed)
            model = Model()
            expected = [model.answer(call) for call in calls]
            self.assertEqual(run([reset()] + calls)[1:], expected, seed)

    def test_every_code_occurs(self):
        codes = set()
        for seed in range(60):
            codes.update([found[0] for found in run([reset()] + chosen_calls(seed)) if found[0] < 0])
        self.assertEqual(codes, {-2, -6, -17, -22, -28, -33})


def best_routes(calls, member_count):
    """For each member its answers to best_route for the prefixes that are used here."""
    asked = [best_route(member, address, length) for member in range(member_count) for address, length in PREFIXES]
    found = run(calls + asked)[len(calls):]
    return [found[start:start + len(PREFIXES)] for start in range(0, len(found), len(PREFIXES))]


class Requirements(unittest.TestCase):
    """What the document asks of every change, asked after each step of a shorter sequence."""

    def steps(self):
        for seed in range(4):
            source = random.Random(1000 + seed)
            calls = [reset()] + [add_member(asn) for asn in ASNS]
            for turn in range(60):
                call = chosen_call(source)
                yield calls, call
                calls = calls + [call]

    def test_changed_members_are_those_whose_best_routes_differ(self):
        for calls, call in self.steps():
            before, after = best_routes(calls, 6), best_routes(calls + [call], 6)
            differ = [member for member in range(6) if before[member] != after[member]]
            answered = run(calls + [call])[-1]
            if answered[0] < 0 or call[0] in (7, 8):
                self.assertEqual(differ, [])
            else:
                self.assertEqual(answered, [len(differ)] + differ)

    def test_unused_routes(self):
        for calls, call in self.steps():
            answered = run(calls + [call])[-1]
            if call[0] == 3 and answered[0] >= 0:
                at = PREFIXES.index((call[2], call[3]))
                users = [member for member, found in enumerate(best_routes(calls, 6)) if found[at][0] == call[1]]
                self.assertEqual(answered[1:], users)

    def test_local_policies(self):
        for calls, call in self.steps():
            answered = run(calls + [call])[-1]
            if call[0] in (4, 5, 6) and answered[0] >= 0:
                touched = call[2] if call[0] == 4 else call[1]
                self.assertIn(answered, ([0], [1, touched]))


if __name__ == "__main__":
    unittest.main()
