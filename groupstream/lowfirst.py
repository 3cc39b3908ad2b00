"""Numbers in bytes, lowest byte first."""


def number_at(octets, at, count):
    number = 0
    for step in range(count):
        number += octets[at + step] << (8 * step)
    return number


def octets_of(number, count):
    return [(number >> (8 * step)) & 255 for step in range(count)]
