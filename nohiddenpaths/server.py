"""The state of a route server, and the routing tables that follow from it."""

from nohiddenpaths.checks import size_of_prefix

INITIAL_PREFERENCE = 5


# A policy that was never set is not kept, so that it is the initial one for peers that come later, too.
class Member:
    def __init__(self, asn):
        self.asn = asn
        self.export_denials = {}
        self.import_denials = {}
        self.preferences = {}

    def export_denied(self, peer):
        return self.export_denials.get(peer, 0)

    def import_denied(self, peer):
        return self.import_denials.get(peer, 0)

    def preference_for(self, peer):
        return self.preferences.get(peer, INITIAL_PREFERENCE)


# Never changed once it is made, so that a routing table from before a change still shows what it held then.
class Route:
    def __init__(self, announcer, address, length, as_path):
        self.announcer = announcer
        self.address = address
        self.length = length
        self.as_path = as_path

    def is_for(self, address, length):
        return self.address == address and self.length == length

    def contains(self, destination):
        return self.address <= destination < self.address + size_of_prefix(self.length)

    # The AS path is among them: a table in which nothing but a path is new counts as changed.
    def compared_by(self):
        return (self.address, self.length, self.announcer, self.as_path)


class RouteServer:
    def __init__(self):
        self.members = []
        self.routes = []

    # For changes that are only tried out. The members are shared with it, so only its routes may be changed.
    def with_own_routes(self):
        server = RouteServer()
        server.members = self.members
        server.routes = list(self.routes)
        return server

    def has_member(self, member):
        return member < len(self.members)

    def has_asn(self, asn):
        return asn in [member.asn for member in self.members]

    def place_of_route(self, announcer, address, length):
        for place, route in enumerate(self.routes):
            if route.announcer == announcer and route.is_for(address, length):
                return place
        return None

    def is_eligible(self, route, member):
        if route.announcer == member:
            return False
        if self.members[route.announcer].export_denied(member) == 1:
            return False
        if self.members[member].import_denied(route.announcer) == 1:
            return False
        return self.members[member].asn not in route.as_path

    # The preference is negated because the better route is to have the lower rank in all three.
    def rank(self, route, member):
        preference = self.members[member].preference_for(route.announcer)
        return (-preference, len(route.as_path), self.members[route.announcer].asn)

    def ranked_routes(self, member, address, length):
        candidates = [route for route in self.routes if route.is_for(address, length)]
        eligible = [route for route in candidates if self.is_eligible(route, member)]
        return sorted(eligible, key=lambda route: self.rank(route, member))

    def prefixes_in_order(self):
        return sorted(set([(route.address, route.length) for route in self.routes]))

    def routing_table(self, member):
        table = []
        for address, length in self.prefixes_in_order():
            ranked = self.ranked_routes(member, address, length)
            if ranked:
                table.append(ranked[0])
        return table

    def routing_tables(self):
        return [self.routing_table(member) for member in range(len(self.members))]
