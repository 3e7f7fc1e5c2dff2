"""Calls as numbers, and ways to look at the machine that they leave behind."""

from musicbox.desk import Reader, answer_next, answers
from musicbox.machine import Machine

MOST = 10 ** 18 - 1
LEAST_WHOLE = -2147483648
MOST_WHOLE = 2147483647
BYTES_A_FRAME = {0: 1, 1: 2, 2: 2, 3: 4}


def amount(cents):
    """Ten bytes, written by way of the decimal digits as text."""
    digits = str(abs(cents)).zfill(18)
    pairs = [int(digits[i:i + 2], 16) for i in range(16, -1, -2)]
    return pairs + [0x80 if cents < 0 else 0x00]


ZERO_BELOW = [0] * 9 + [0x80]
NO_AMOUNTS = (
    [0x0A] + [0] * 9,
    [0xA0] + [0] * 9,
    [0] * 8 + [0x0A, 0],
    [0] * 8 + [0xA0, 0],
    [0xFF] * 10,
    [0x1F] + [0] * 8 + [0x80],
    [1] + [0] * 8 + [0x01],
    [1] + [0] * 8 + [0x7F],
    [1] + [0] * 8 + [0x81],
    [1] + [0] * 8 + [0xFF],
    [1] + [0] * 8 + [0x08],
)


def init():
    return [0]


def load(k, kind, frames, row=None):
    """A load with just as many bytes as are to be handed: blank ones, if none are given."""
    if row is None:
        in_range = 0 <= k <= 7 and kind in BYTES_A_FRAME and 1 <= frames <= 2048
        row = [128] * (BYTES_A_FRAME[kind] * frames) if in_range else []
    return [1, k, kind, frames, len(row)] + row


def price_bytes(k, owner, share, row):
    return [2, k, owner, share, len(row)] + row


def price(k, owner, share, cents):
    return price_bytes(k, owner, share, amount(cents))


def coin_bytes(row):
    return [3, len(row)] + row


def coin(cents):
    return coin_bytes(amount(cents))


def buy(k, v, left=16384, right=16384, step=16384):
    return [4, k, v, left, right, step]


def fade(v, left, right, by):
    return [5, v, left, right, by]


def stop(v):
    return [6, v]


def echo(frames, gain):
    return [7, frames, gain]


def line(*calls):
    return [number for call in calls for number in call]


def answered(*calls):
    """The first number that each call answers; each must answer that number alone."""
    given = answers(line(*calls))
    counts = given[0::2]
    if counts != [1] * len(calls):
        raise AssertionError(f"not one number for each call: {given}")
    return given[1::2]


def last(*calls):
    return answered(*calls)[-1]


def carry_out(machine, *calls):
    """Carry out calls on a machine that is at hand; the first number that each answers."""
    reader = Reader(line(*calls))
    given = []
    while not reader.at_end():
        given.append(answer_next(machine, reader)[0])
    return given


def machine_after(*calls):
    machine = Machine()
    carry_out(machine, *calls)
    return machine


def picture(value):
    """All that a machine keeps, as plain values that can be compared and that no call changes."""
    if isinstance(value, (list, tuple)):
        return [picture(each) for each in value]
    if hasattr(value, "__dict__"):
        return {name: picture(each) for name, each in vars(value).items()}
    return value
