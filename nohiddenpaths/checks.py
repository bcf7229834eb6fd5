"""What counts as an ASN, an address, a prefix and an AS path."""

MAX_ASN = 9999
MAX_PATH_LENGTH = 6
ADDRESS_BITS = 8
ADDRESS_COUNT = 256


def is_asn(number):
    return 1 <= number <= MAX_ASN


def is_address(number):
    return number < ADDRESS_COUNT


def size_of_prefix(length):
    return ADDRESS_COUNT >> length


def is_prefix(address, length):
    # The length is looked at first: only up to 8 bits does a prefix contain any address to divide by.
    if length > ADDRESS_BITS or not is_address(address):
        return False
    return address % size_of_prefix(length) == 0


def is_as_path(as_path, announcer_asn):
    if not 1 <= len(as_path) <= MAX_PATH_LENGTH:
        return False
    if not all([is_asn(number) for number in as_path]):
        return False
    return len(set(as_path)) == len(as_path) and as_path[0] == announcer_asn
