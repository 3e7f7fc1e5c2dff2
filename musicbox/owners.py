"""What owners of tracks are given beside their part of the price: the calls interest and bonus."""

from musicbox.amounts import fits, read_at_least
from musicbox.machine import ACCOUNTS, FIRST_OWNER, HOUSE, OUT_OF_RANGE, TOO_MANY_DIGITS
from musicbox.rounding import to_the_nearest
from musicbox.till import all_fit

WHOLE_RATE = 100000
MOST_PERIODS = 1200

NONE_BOUGHT = -3


def interest(machine, a, rate, periods):
    """Answer the call interest."""
    if not FIRST_OWNER <= a < ACCOUNTS or not -WHOLE_RATE <= rate <= WHOLE_RATE or not 1 <= periods <= MOST_PERIODS:
        return [OUT_OF_RANGE]
    balance = machine.accounts[a]
    house = machine.accounts[HOUSE]
    for period in range(periods):
        cents = to_the_nearest(balance * rate, WHOLE_RATE)
        balance += cents
        house -= cents
        if not fits(balance) or not fits(house):
            return [TOO_MANY_DIGITS]
    machine.accounts[a] = balance
    machine.accounts[HOUSE] = house
    return [0]


def bonus(machine, row):
    """Answer the call bonus."""
    cents = read_at_least(row, 1)
    if cents is None:
        return [OUT_OF_RANGE]
    bought = bought_by_owner(machine)
    if sum(bought) == 0:
        return [NONE_BOUGHT]
    parts = parts_of(cents, bought)
    accounts = [machine.accounts[a] + parts[a] for a in range(ACCOUNTS)]
    accounts[HOUSE] -= cents
    if not all_fit(accounts):
        return [TOO_MANY_DIGITS]
    machine.accounts = accounts
    forget_bought(machine)
    return [0]


def bought_by_owner(machine):
    """Give back, account by account, how often the tracks of that owner were bought; the house is none."""
    bought = [0] * ACCOUNTS
    for track in machine.tracks:
        if track is not None and track.owner >= FIRST_OWNER:
            bought[track.owner] += track.bought
    return bought


def parts_of(cents, bought):
    """Give back, account by account, the part of the cents that falls to how often was bought there."""
    whole = sum(bought)
    parts = [cents * count // whole for count in bought]
    # Sorting keeps the accounts' order among equal remainders, so the lower account's comes first.
    by_remainder = sorted(range(ACCOUNTS), key=lambda a: cents * bought[a] % whole, reverse=True)
    for a in by_remainder[:cents - sum(parts)]:
        parts[a] += 1
    return parts


def forget_bought(machine):
    """Let no track have been bought."""
    for track in machine.tracks:
        if track is not None:
            track.bought = 0
