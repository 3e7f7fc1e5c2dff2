"""Calls as numbers, and ways to look at the machine that they leave behind."""

import struct

from musicbox.desk import Reader, answer_next, answers
from musicbox.machine import Machine

MOST = 10 ** 18 - 1
LEAST_WHOLE = -2147483648
MOST_WHOLE = 2147483647
BYTES_A_FRAME = {0: 1, 1: 2, 2: 2, 3: 4}
MIXED_BYTES_A_FRAME = {0: 4, 1: 2, 2: 2}
HANDED = 0xEE


def amount(cents):
    """Ten bytes, written by way of the decimal digits as text."""
    digits = str(abs(cents)).zfill(18)
    pairs = [int(digits[i:i + 2], 16) for i in range(16, -1, -2)]
    return pairs + [0x80 if cents < 0 else 0x00]


ZERO_BELOW = [0] * 9 + [0x80]
NO_AMOUNTS = (
    [0x0A] + [0] * 9,
    [0xA0] + [0] * 9,
    [0] * 8 + [0x0A, 0],
    [0] * 8 + [0xA0, 0],
    [0xFF] * 10,
    [0x1F] + [0] * 8 + [0x80],
    [1] + [0] * 8 + [0x01],
    [1] + [0] * 8 + [0x7F],
    [1] + [0] * 8 + [0x81],
    [1] + [0] * 8 + [0xFF],
    [1] + [0] * 8 + [0x08],
)


def init():
    return [0]


def load(k, kind, frames, row=None):
    """A load with just as many bytes as are to be handed: blank ones, if none are given."""
    if row is None:
        in_range = 0 <= k <= 7 and kind in BYTES_A_FRAME and 1 <= frames <= 2048
        row = [128] * (BYTES_A_FRAME[kind] * frames) if in_range else []
    return [1, k, kind, frames, len(row)] + row


def load_frames(k, frames):
    """A load of frames, each of a left sample and a right one."""
    row = [byte for frame in frames for byte in struct.pack("<hh", *frame)]
    return load(k, 3, len(frames), row)


def price_bytes(k, owner, share, row):
    return [2, k, owner, share, len(row)] + row


def price(k, owner, share, cents):
    return price_bytes(k, owner, share, amount(cents))


def coin_bytes(row):
    return [3, len(row)] + row


def coin(cents):
    return coin_bytes(amount(cents))


def buy(k, v, left=16384, right=16384, step=16384):
    return [4, k, v, left, right, step]


def fade(v, left, right, by):
    return [5, v, left, right, by]


def stop(v):
    return [6, v]


def echo(frames, gain):
    return [7, frames, gain]


def mix(n, form=0, how=0, gate=-1, row=None):
    """A mix with just as many bytes as are to be handed: all the same, if none are given."""
    if row is None:
        in_range = 0 <= n <= 1024 and form in MIXED_BYTES_A_FRAME and 0 <= how <= 3 and -1 <= gate <= 32767
        row = [HANDED] * (MIXED_BYTES_A_FRAME[form] * n) if in_range else []
    return [8, n, form, how, gate, len(row)] + row


def level():
    return [9]


def pay_bytes(payer, to, row):
    return [10, payer, to, len(row)] + row


def pay(payer, to, cents):
    return pay_bytes(payer, to, amount(cents))


def interest(a, rate, periods):
    return [11, a, rate, periods]


def bonus_bytes(row):
    return [12, len(row)] + row


def bonus(cents):
    return bonus_bytes(amount(cents))


def tell(a):
    return [13, a]


def owed():
    return [14]


def text(a):
    return [15, a]


def line(*calls):
    return [number for call in calls for number in call]


def parted(given):
    """What answers() gave back, as a list of each call's numbers."""
    parts = []
    place = 0
    while place < len(given):
        parts.append(given[place + 1:place + 1 + given[place]])
        place += 1 + given[place]
    if place != len(given):
        raise AssertionError(f"fewer numbers than were told: {given}")
    return parts


def numbers_answered(call):
    """How many numbers a call answers that isn't refused."""
    if call[0] == 8:
        return len(call) - 5
    return {9: 25, 13: 11, 14: 11, 15: 27}.get(call[0], 1)


def whole_answers(*calls):
    """All numbers that each call answers; how many they are is seen to here."""
    parts = parted(answers(line(*calls)))
    if len(parts) != len(calls):
        raise AssertionError(f"not one answer for each call: {parts}")
    for call, part in zip(calls, parts):
        if len(part) != (1 if part[0] < 0 else numbers_answered(call)):
            raise AssertionError(f"too few or too many numbers: {call}, {part}")
    return parts


def answered(*calls):
    """The first number that each call answers."""
    return [part[0] for part in whole_answers(*calls)]


def last(*calls):
    return answered(*calls)[-1]


def last_whole(*calls):
    return whole_answers(*calls)[-1]


def carry_out_whole(machine, *calls):
    """Carry out calls on a machine that is at hand; all numbers that each answers."""
    reader = Reader(line(*calls))
    given = []
    while not reader.at_end():
        given.append(answer_next(machine, reader))
    return given


def carry_out(machine, *calls):
    """Carry out calls on a machine that is at hand; the first number that each answers."""
    return [answer[0] for answer in carry_out_whole(machine, *calls)]


def machine_after(*calls):
    machine = Machine()
    carry_out(machine, *calls)
    return machine


def machine_with(accounts, *calls):
    """A machine after init and the calls, whose accounts named in the dict have other balances."""
    machine = machine_after(init(), *calls)
    for account, cents in accounts.items():
        machine.accounts[account] = cents
    return machine


def frames_in(answer):
    """The frames, left and right, that a mix of form 0 answers."""
    return list(struct.iter_unpack("<hh", bytes(answer[1:])))


def heard(*calls):
    """The frames, left and right, of all mixes among the calls; these are of form 0."""
    frames = []
    for call, answer in zip(calls, whole_answers(*calls)):
        if call[0] == 8:
            frames += frames_in(answer)
    return frames


def told_levels(answer):
    """The left level, the right one, ends and swing that a level answers."""
    return struct.unpack("<IIQQ", bytes(answer[1:]))


def picture(value):
    """All that a machine keeps, as plain values that can be compared and that no call changes."""
    if isinstance(value, (list, tuple)):
        return [picture(each) for each in value]
    if hasattr(value, "__dict__"):
        return {name: picture(each) for name, each in vars(value).items()}
    return value
