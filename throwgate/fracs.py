"""Fractions as tuples (top, bottom), the bottom from 1 on."""


def greatest_divisor(one, two):
    divisor = one
    rest = two
    while rest != 0:
        next_rest = divisor % rest
        divisor = rest
        rest = next_rest
    return divisor


def lowest(top, bottom):
    divisor = greatest_divisor(abs(top), abs(bottom))
    # A divisor with the sign of the bottom leaves the bottom above 0.
    if bottom < 0:
        divisor = -divisor
    return (top // divisor, bottom // divisor)


def compare(one, two):
    # Both bottoms are above 0, so multiplying by them keeps the order.
    left = one[0] * two[1]
    right = two[0] * one[1]
    if left < right:
        return -1
    if left > right:
        return 1
    return 0
