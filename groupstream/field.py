"""The field of 256: bytes as polynomials over 2 modulo x^8 + x^4 + x^3 + x + 1, and rows of them."""

MODULUS = 0x11B


def product(left, right):
    total = 0
    while right > 0:
        if right & 1 == 1:
            total = total ^ left
        left = left << 1
        if left > 255:
            left = left ^ MODULUS
        right = right >> 1
    return total


def inverse(value):
    # A value's 255th power is 1, so its inverse is the 254th, and 254 = 2 + 4 + .. + 128.
    power = value
    total = 1
    for step in range(7):
        power = product(power, power)
        total = product(total, power)
    return total


def scaled(row, factor):
    return [product(octet, factor) for octet in row]


def added(row, other):
    return [left ^ right for left, right in zip(row, other)]
