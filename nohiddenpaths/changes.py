"""The calls that change the state: each checks everything before it changes anything."""

from nohiddenpaths.checks import is_as_path, is_asn, is_prefix
from nohiddenpaths.codes import ASN_IN_USE, INVALID, LIMIT_REACHED, NO_MEMBER, NO_ROUTE
from nohiddenpaths.server import Member, Route

MAX_MEMBERS = 6
MAX_ROUTES = 20
MAX_DENIED = 1
MAX_PREFERENCE = 9


def are_equal(table, other):
    return [route.compared_by() for route in table] == [route.compared_by() for route in other]


def changed_since(server, tables_before):
    tables_now = server.routing_tables()
    changed = [member for member, table in enumerate(tables_now) if not are_equal(table, tables_before[member])]
    return [len(changed)] + changed


def add_member(server, asn):
    if not is_asn(asn):
        return [INVALID]
    if server.has_asn(asn):
        return [ASN_IN_USE]
    if len(server.members) >= MAX_MEMBERS:
        return [LIMIT_REACHED]
    server.members.append(Member(asn))
    return [len(server.members) - 1]


def announce(server, member, address, length, as_path):
    if not server.has_member(member):
        return [NO_MEMBER]
    if not is_prefix(address, length) or not is_as_path(as_path, server.members[member].asn):
        return [INVALID]
    place = server.place_of_route(member, address, length)
    if place is None and len(server.routes) >= MAX_ROUTES:
        return [LIMIT_REACHED]
    tables_before = server.routing_tables()
    route = Route(member, address, length, as_path)
    if place is None:
        server.routes.append(route)
    else:
        server.routes[place] = route
    return changed_since(server, tables_before)


def withdraw(server, member, address, length):
    if not server.has_member(member):
        return [NO_MEMBER]
    if not is_prefix(address, length):
        return [INVALID]
    place = server.place_of_route(member, address, length)
    if place is None:
        return [NO_ROUTE]
    tables_before = server.routing_tables()
    server.routes.pop(place)
    return changed_since(server, tables_before)


def withdraw_all(server, member):
    if not server.has_member(member):
        return [NO_MEMBER]
    tables_before = server.routing_tables()
    server.routes = [route for route in server.routes if route.announcer != member]
    return changed_since(server, tables_before)


def policy_refusal(server, member, peer, value, greatest):
    if not server.has_member(member) or not server.has_member(peer):
        return NO_MEMBER
    if member == peer or value > greatest:
        return INVALID
    return None


def set_export(server, member, peer, denied):
    refusal = policy_refusal(server, member, peer, denied, MAX_DENIED)
    if refusal is not None:
        return [refusal]
    tables_before = server.routing_tables()
    server.members[member].export_denials[peer] = denied
    return changed_since(server, tables_before)


def set_import(server, member, peer, denied):
    refusal = policy_refusal(server, member, peer, denied, MAX_DENIED)
    if refusal is not None:
        return [refusal]
    tables_before = server.routing_tables()
    server.members[member].import_denials[peer] = denied
    return changed_since(server, tables_before)


def set_preference(server, member, peer, preference):
    refusal = policy_refusal(server, member, peer, preference, MAX_PREFERENCE)
    if refusal is not None:
        return [refusal]
    tables_before = server.routing_tables()
    server.members[member].preferences[peer] = preference
    return changed_since(server, tables_before)
