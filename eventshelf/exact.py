"""Exact fractions, as they are answered."""


def lowest_terms(top, bottom):
    divisor = top
    rest = bottom
    while rest != 0:
        following = divisor % rest
        divisor = rest
        rest = following
    return [top // divisor, bottom // divisor]
