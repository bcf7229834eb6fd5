"""How the calls stand one behind another in a list of whole numbers."""

RESET = 0
ADD_MEMBER = 1
ANNOUNCE = 2
WITHDRAW = 3
SET_EXPORT = 4
SET_IMPORT = 5
SET_PREFERENCE = 6
BEST_ROUTE = 7
ELIGIBLE_ROUTES = 8
ROUTING_TABLE = 9
LOOKUP = 10
REACHABLE_ADDRESSES = 11
USERS_OF = 12
PREVIEW_WITHDRAW = 13
WITHDRAW_ALL = 14
ANNOUNCED_PREFIXES = 15
MEMBER_ROUTES = 16
MEMBER_POLICY = 17

# By the number of the call: how many whole numbers follow it, a list and its count left out.
ARGUMENT_COUNTS = (0, 1, 3, 3, 3, 3, 3, 3, 3, 1, 2, 1, 1, 3, 1, 0, 1, 1)


# Calls other than announce are given an empty AS path, so that all of them have the same form.
def split_calls(calls):
    found = []
    place = 0
    while place < len(calls):
        number = calls[place]
        first = place + 1
        place = first + ARGUMENT_COUNTS[number]
        arguments = calls[first:place]
        as_path = []
        if number == ANNOUNCE:
            first = place + 1
            place = first + calls[place]
            as_path = calls[first:place]
        found.append((number, arguments, as_path))
    return found
