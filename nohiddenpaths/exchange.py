"""The calls on a route server, answered one after another."""

from nohiddenpaths.changes import add_member, announce, set_export, set_import, set_preference, withdraw
from nohiddenpaths.codes import NO_SERVER
from nohiddenpaths.layout import ADD_MEMBER, ANNOUNCE, BEST_ROUTE, ELIGIBLE_ROUTES, RESET
from nohiddenpaths.layout import SET_EXPORT, SET_IMPORT, SET_PREFERENCE, WITHDRAW, split_calls
from nohiddenpaths.reports import best_route, eligible_routes
from nohiddenpaths.server import RouteServer


def perform(server, number, given, as_path):
    if number == ADD_MEMBER:
        return add_member(server, given[0])
    if number == ANNOUNCE:
        return announce(server, given[0], given[1], given[2], as_path)
    if number == WITHDRAW:
        return withdraw(server, given[0], given[1], given[2])
    if number == SET_EXPORT:
        return set_export(server, given[0], given[1], given[2])
    if number == SET_IMPORT:
        return set_import(server, given[0], given[1], given[2])
    if number == SET_PREFERENCE:
        return set_preference(server, given[0], given[1], given[2])
    if number == BEST_ROUTE:
        return best_route(server, given[0], given[1], given[2])
    if number == ELIGIBLE_ROUTES:
        return eligible_routes(server, given[0], given[1], given[2])
    raise KeyError(number)


def answers(calls):
    server = None
    answered = []
    for number, given, as_path in split_calls(calls):
        if number == RESET:
            server = RouteServer()
            answer = [0]
        elif server is None:
            answer = [NO_SERVER]
        else:
            answer = perform(server, number, given, as_path)
        answered.append(len(answer))
        answered.extend(answer)
    return answered
