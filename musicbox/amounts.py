"""Amounts of cents: the ten bytes that stand for one, and its bounds."""

DIGIT_BYTES = 9
PLUS = 0
MINUS = 128
LARGEST = 999999999999999999


def fits(cents):
    """Tell whether so many cents have at most 18 digits."""
    return -LARGEST <= cents <= LARGEST


def is_amount(row):
    """Tell whether ten bytes are an amount."""
    for pair in row[:DIGIT_BYTES]:
        if pair // 16 > 9 or pair % 16 > 9:
            return False
    return row[DIGIT_BYTES] in (PLUS, MINUS)


def read_amount(row):
    """Give back the cents that ten bytes stand for, or None where they are no amount."""
    if not is_amount(row):
        return None
    cents = 0
    for pair in reversed(row[:DIGIT_BYTES]):
        cents = cents * 100 + pair // 16 * 10 + pair % 16
    return -cents if row[DIGIT_BYTES] == MINUS else cents


def read_at_least(row, least):
    """Give back the cents that ten bytes stand for, or None where they are no amount or less than least."""
    cents = read_amount(row)
    if cents is None or cents < least:
        return None
    return cents


def write_amount(cents):
    """Give back the ten bytes of an amount that fits."""
    row = []
    rest = abs(cents)
    while len(row) < DIGIT_BYTES:
        row.append(rest // 10 % 10 * 16 + rest % 10)
        rest = rest // 100
    row.append(MINUS if cents < 0 else PLUS)
    return row
