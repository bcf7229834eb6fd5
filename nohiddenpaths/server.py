"""The state of a route server, and the routing tables that follow from it."""

INITIAL_PREFERENCE = 5


# A policy that was never set is not kept, so that it is the initial one for peers that come later, too.
class Member:
    def __init__(self, asn):
        self.asn = asn
        self.export_denials = {}
        self.import_denials = {}
        self.preferences = {}

    def exports_to(self, peer):
        return self.export_denials.get(peer, 0) == 0

    def imports_from(self, peer):
        return self.import_denials.get(peer, 0) == 0

    def preference_for(self, peer):
        return self.preferences.get(peer, INITIAL_PREFERENCE)


# Never changed once it is made, so that the rows of a routing table may hold its AS path.
class Route:
    def __init__(self, announcer, address, length, as_path):
        self.announcer = announcer
        self.address = address
        self.length = length
        self.as_path = as_path

    def is_for(self, address, length):
        return self.address == address and self.length == length


class RouteServer:
    def __init__(self):
        self.members = []
        self.routes = []

    def has_member(self, member):
        return member < len(self.members)

    def has_asn(self, asn):
        return asn in [member.asn for member in self.members]

    def place_of_route(self, announcer, address, length):
        for place, route in enumerate(self.routes):
            if route.announcer == announcer and route.is_for(address, length):
                return place
        return None

    def is_eligible(self, route, member):
        if route.announcer == member:
            return False
        if not self.members[route.announcer].exports_to(member):
            return False
        if not self.members[member].imports_from(route.announcer):
            return False
        return self.members[member].asn not in route.as_path

    # The preference is negated because the better route is to have the lower rank in all three.
    def rank(self, route, member):
        preference = self.members[member].preference_for(route.announcer)
        return (-preference, len(route.as_path), self.members[route.announcer].asn)

    def ranked_routes(self, member, address, length):
        candidates = [route for route in self.routes if route.is_for(address, length)]
        eligible = [route for route in candidates if self.is_eligible(route, member)]
        return sorted(eligible, key=lambda route: self.rank(route, member))

    def prefixes_in_order(self):
        return sorted(set([(route.address, route.length) for route in self.routes]))

    # A row has the AS path, too: a table in which nothing but a path is new counts as changed.
    def routing_table(self, member):
        table = []
        for address, length in self.prefixes_in_order():
            ranked = self.ranked_routes(member, address, length)
            if ranked:
                table.append((address, length, ranked[0].announcer, ranked[0].as_path))
        return table

    def routing_tables(self):
        return [self.routing_table(member) for member in range(len(self.members))]
