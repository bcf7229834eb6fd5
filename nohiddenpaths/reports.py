"""The calls that only return information and leave the state as it is."""

from nohiddenpaths.checks import is_prefix
from nohiddenpaths.codes import INVALID, NO_MATCH, NO_MEMBER


def best_route(server, member, address, length):
    if not server.has_member(member):
        return [NO_MEMBER]
    if not is_prefix(address, length):
        return [INVALID]
    ranked = server.ranked_routes(member, address, length)
    if not ranked:
        return [NO_MATCH]
    return [ranked[0].announcer, len(ranked[0].as_path)] + ranked[0].as_path


def eligible_routes(server, member, address, length):
    if not server.has_member(member):
        return [NO_MEMBER]
    if not is_prefix(address, length):
        return [INVALID]
    ranked = server.ranked_routes(member, address, length)
    return [len(ranked)] + [route.announcer for route in ranked]
