"""The CRC of 32 bits that ends each packet."""

# The polynomial 1EDC6F41 with its bits turned, because each byte's lowest bit comes first.
POLYNOMIAL = 0x82F63B78
ALL_ONES = 0xFFFFFFFF


def checksum(octets):
    state = ALL_ONES
    for octet in octets:
        state = state ^ octet
        for bit in range(8):
            lowest = state & 1
            state = state >> 1
            if lowest == 1:
                state = state ^ POLYNOMIAL
    return state ^ ALL_ONES
