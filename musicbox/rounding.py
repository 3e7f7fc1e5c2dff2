"""Rounding to the nearest whole number, as amounts (to the cent) and levels ask for it."""


def to_the_nearest(dividend, divisor):
    """Give back the whole number nearest to dividend / divisor, of two the even one."""
    nearest = dividend // divisor
    twice_left = dividend % divisor * 2
    if twice_left > divisor or (twice_left == divisor and nearest % 2 == 1):
        return nearest + 1
    return nearest
