"""The calls that tell of the accounts: tell, owed and text."""

from musicbox.amounts import fits, write_amount
from musicbox.machine import OUT_OF_RANGE, TOO_MANY_DIGITS, UNSPENT, is_account

TEXT_WIDTH = 25
TEXT_END = 0


def tell(machine, a):
    """Answer the call tell."""
    if not is_account(a):
        return [OUT_OF_RANGE]
    return [0] + write_amount(machine.accounts[a])


def owed(machine):
    """Answer the call owed."""
    cents = sum([max(balance, 0) for balance in machine.accounts[UNSPENT:]])
    if not fits(cents):
        return [TOO_MANY_DIGITS]
    return [0] + write_amount(cents)


def text(machine, a):
    """Answer the call text."""
    if not is_account(a):
        return [OUT_OF_RANGE]
    written = written_out(machine.accounts[a]).rjust(TEXT_WIDTH)
    return [0] + [ord(sign) for sign in written] + [TEXT_END]


def written_out(cents):
    """Give back cents as a text, with a point and commas, such as -1,234.05."""
    digits = str(abs(cents)).zfill(3)
    sign = "-" if cents < 0 else ""
    return sign + with_commas(digits[:-2]) + "." + digits[-2:]


def with_commas(digits):
    """Give back digits in threes from the last on, with a comma between."""
    threes = digits[-3:]
    rest = digits[:-3]
    while len(rest) > 0:
        threes = rest[-3:] + "," + threes
        rest = rest[:-3]
    return threes
