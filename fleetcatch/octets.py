"""Numbers as bytes with the low byte first, and the check over bytes."""

ALL_ONES = 0xFFFFFFFF
POLYNOMIAL = 0x82F63B78


def low_first(number, size):
    return [(number >> (8 * place)) & 255 for place in range(size)]


def all_low_first(numbers, size):
    octets = []
    for number in numbers:
        octets.extend(low_first(number, size))
    return octets


def number_at(octets, at, size):
    number = 0
    for place in range(size):
        number = number | (octets[at + place] << (8 * place))
    return number


def numbers_at(octets, at, count, size):
    return [number_at(octets, at + size * place, size) for place in range(count)]


def crc32c(octets):
    check = ALL_ONES
    for octet in octets:
        check = check ^ octet
        for step in range(8):
            if check & 1 == 1:
                check = (check >> 1) ^ POLYNOMIAL
            else:
                check = check >> 1
    return check ^ ALL_ONES


def with_check(octets):
    return octets + low_first(crc32c(octets), 4)


def check_is_right(octets):
    end = len(octets) - 4
    return number_at(octets, end, 4) == crc32c(octets[:end])
