"""Several numbers as one: bit k of it is 1 where k is among them."""


def bits_of(numbers):
    bits = 0
    for k in numbers:
        bits |= 1 << k
    return bits


def numbers_of(bits):
    return [k for k in range(bits.bit_length()) if bits >> k & 1]
