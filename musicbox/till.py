"""How money goes from account to account: the calls coin and pay, and the payment for a track."""

from musicbox.amounts import fits, read_at_least
from musicbox.machine import HOUSE, OUT_OF_RANGE, TILL, TOO_MANY_DIGITS, UNSPENT, WHOLE_SHARE, is_account
from musicbox.rounding import to_the_nearest


def coin(machine, row):
    """Answer the call coin."""
    cents = read_at_least(row, 1)
    if cents is None:
        return [OUT_OF_RANGE]
    return move(machine, TILL, UNSPENT, cents)


def pay(machine, payer, to, row):
    """Answer the call pay."""
    cents = read_at_least(row, 0)
    if cents is None or not is_account(payer) or not is_account(to):
        return [OUT_OF_RANGE]
    return move(machine, payer, to, cents)


def move(machine, payer, to, cents):
    """Take cents from one account and add them to the other, or refuse it."""
    accounts = list(machine.accounts)
    accounts[payer] -= cents
    accounts[to] += cents
    if not all_fit(accounts):
        return [TOO_MANY_DIGITS]
    machine.accounts = accounts
    return [0]


def after_payment(accounts, track):
    """Give back the accounts as they would be with the track paid for; those handed in stay."""
    owners_part = to_the_nearest(track.cost * track.share, WHOLE_SHARE)
    paid = list(accounts)
    paid[UNSPENT] -= track.cost
    paid[track.owner] += owners_part
    paid[HOUSE] += track.cost - owners_part
    return paid


def all_fit(accounts):
    """Tell whether no account has more than 18 digits."""
    return all([fits(cents) for cents in accounts])
