"""What is reckoned with samples, and the bytes that whole numbers are given out in."""

LEAST_SAMPLE = -32768
MOST_SAMPLE = 32767

# A gain of 1, and the way from one frame of a track to the next.
WHOLE = 16384
HALF = 8192


def held(number):
    """Give back the sample that is nearest to a number."""
    return max(LEAST_SAMPLE, min(number, MOST_SAMPLE))


def scaled(sample, gain):
    """Give back a sample scaled by a gain."""
    return held((sample * gain + HALF) // WHOLE)


def between(before, behind, way):
    """Give back what lies between two samples, so far on the way from the first to the second."""
    return (before * (WHOLE - way) + behind * way + HALF) // WHOLE


def in_eight_bits(sample):
    """Give back the sample as it is in eight bits, with its sign."""
    return max(-128, min((sample + 128) // 256, 127))


def low_bytes(number, how_many):
    """Give back so many bytes of a number, the lower first; one below 0 is taken as its two's complement."""
    row = []
    rest = number
    while len(row) < how_many:
        row.append(rest % 256)
        rest = rest // 256
    return row
