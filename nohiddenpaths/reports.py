"""The calls that only return information and leave the state as it is."""

from nohiddenpaths.changes import withdraw
from nohiddenpaths.checks import ADDRESS_COUNT, is_address, is_prefix
from nohiddenpaths.codes import INVALID, NO_MATCH, NO_MEMBER


def best_route(server, member, address, length):
    if not server.has_member(member):
        return [NO_MEMBER]
    if not is_prefix(address, length):
        return [INVALID]
    ranked = server.ranked_routes(member, address, length)
    if not ranked:
        return [NO_MATCH]
    return [ranked[0].announcer, len(ranked[0].as_path)] + ranked[0].as_path


def eligible_routes(server, member, address, length):
    if not server.has_member(member):
        return [NO_MEMBER]
    if not is_prefix(address, length):
        return [INVALID]
    ranked = server.ranked_routes(member, address, length)
    return [len(ranked)] + [route.announcer for route in ranked]


def routing_table(server, member):
    if not server.has_member(member):
        return [NO_MEMBER]
    table = server.routing_table(member)
    found = [len(table)]
    for route in table:
        found.extend([route.address, route.length, route.announcer])
    return found


# A table has each prefix once, so of the routes that contain an address only one has the greatest length.
def longest_match(table, destination):
    matching = [route for route in table if route.contains(destination)]
    return max(matching, key=lambda route: route.length, default=None)


def lookup(server, member, destination):
    if not server.has_member(member):
        return [NO_MEMBER]
    if not is_address(destination):
        return [INVALID]
    route = longest_match(server.routing_table(member), destination)
    if route is None:
        return [NO_MATCH]
    return [route.announcer, route.address, route.length]


def reachable_addresses(server, member):
    if not server.has_member(member):
        return [NO_MEMBER]
    table = server.routing_table(member)
    reached = [address for address in range(ADDRESS_COUNT) if longest_match(table, address) is not None]
    return [len(reached)]


def users_of(server, member):
    if not server.has_member(member):
        return [NO_MEMBER]
    users = []
    for user, table in enumerate(server.routing_tables()):
        if member in [route.announcer for route in table]:
            users.append(user)
    return [len(users)] + users


# Withdrawn from a copy, so that its answers and refusals are those of withdraw.
def preview_withdraw(server, member, address, length):
    return withdraw(server.with_own_routes(), member, address, length)


def announced_prefixes(server):
    prefixes = server.prefixes_in_order()
    found = [len(prefixes)]
    for address, length in prefixes:
        found.extend([address, length])
    return found


def member_routes(server, member):
    if not server.has_member(member):
        return [NO_MEMBER]
    routes = [route for route in server.routes if route.announcer == member]
    found = [len(routes)]
    for route in routes:
        found.extend([route.address, route.length, len(route.as_path)] + route.as_path)
    return found


def member_policy(server, member):
    if not server.has_member(member):
        return [NO_MEMBER]
    policies = server.members[member]
    found = [policies.asn]
    for peer in range(len(server.members)):
        found.extend([policies.export_denied(peer), policies.import_denied(peer), policies.preference_for(peer)])
    return found
