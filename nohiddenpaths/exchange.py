"""The calls on a route server, answered one after another."""

from nohiddenpaths.changes import add_member, announce, set_export, set_import, set_preference
from nohiddenpaths.changes import withdraw, withdraw_all
from nohiddenpaths.codes import NO_SERVER
from nohiddenpaths.layout import ADD_MEMBER, ANNOUNCE, ANNOUNCED_PREFIXES, BEST_ROUTE, ELIGIBLE_ROUTES, LOOKUP
from nohiddenpaths.layout import MEMBER_POLICY, MEMBER_ROUTES, PREVIEW_WITHDRAW, REACHABLE_ADDRESSES, RESET
from nohiddenpaths.layout import ROUTING_TABLE, SET_EXPORT, SET_IMPORT, SET_PREFERENCE, USERS_OF, WITHDRAW
from nohiddenpaths.layout import WITHDRAW_ALL, split_calls
from nohiddenpaths.reports import announced_prefixes, best_route, eligible_routes, lookup, member_policy
from nohiddenpaths.reports import member_routes, preview_withdraw, reachable_addresses, routing_table, users_of
from nohiddenpaths.server import RouteServer


def perform(server, number, given, as_path):
    if number == ADD_MEMBER:
        return add_member(server, given[0])
    if number == ANNOUNCE:
        return announce(server, given[0], given[1], given[2], as_path)
    if number == WITHDRAW:
        return withdraw(server, given[0], given[1], given[2])
    if number == SET_EXPORT:
        return set_export(server, given[0], given[1], given[2])
    if number == SET_IMPORT:
        return set_import(server, given[0], given[1], given[2])
    if number == SET_PREFERENCE:
        return set_preference(server, given[0], given[1], given[2])
    if number == BEST_ROUTE:
        return best_route(server, given[0], given[1], given[2])
    if number == ELIGIBLE_ROUTES:
        return eligible_routes(server, given[0], given[1], given[2])
    if number == ROUTING_TABLE:
        return routing_table(server, given[0])
    if number == LOOKUP:
        return lookup(server, given[0], given[1])
    if number == REACHABLE_ADDRESSES:
        return reachable_addresses(server, given[0])
    if number == USERS_OF:
        return users_of(server, given[0])
    if number == PREVIEW_WITHDRAW:
        return preview_withdraw(server, given[0], given[1], given[2])
    if number == WITHDRAW_ALL:
        return withdraw_all(server, given[0])
    if number == ANNOUNCED_PREFIXES:
        return announced_prefixes(server)
    if number == MEMBER_ROUTES:
        return member_routes(server, given[0])
    if number == MEMBER_POLICY:
        return member_policy(server, given[0])
    raise KeyError(number)


def answers(calls):
    server = None
    answered = []
    for number, given, as_path in split_calls(calls):
        if number == RESET:
            server = RouteServer()
            answer = [0]
        elif server is None:
            answer = [NO_SERVER]
        else:
            answer = perform(server, number, given, as_path)
        answered.append(len(answer))
        answered.extend(answer)
    return answered
