"""Several numbers as one: bit k of it is 1 where k is among them."""


def bits_of(numbers):
    bits = 0
    for k in numbers:
        bits |= 1 << k
    return bits


# Of hundreds of bits few are often 1, so it goes from one to the next.
def numbers_of(bits):
    found = []
    while bits:
        low = bits & -bits
        found.append(low.bit_length() - 1)
        bits ^= low
    return found
