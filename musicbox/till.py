"""What is done with the accounts: the call coin, and the payment for a track."""

from musicbox.amounts import fits, read_amount, to_the_cent
from musicbox.machine import HOUSE, OUT_OF_RANGE, TILL, UNSPENT, WHOLE_SHARE

TOO_MANY_DIGITS = -2


def coin(machine, row):
    """Answer the call coin."""
    cents = read_amount(row)
    if cents is None or cents <= 0:
        return [OUT_OF_RANGE]
    accounts = list(machine.accounts)
    accounts[TILL] -= cents
    accounts[UNSPENT] += cents
    if not all_fit(accounts):
        return [TOO_MANY_DIGITS]
    machine.accounts = accounts
    return [0]


def after_payment(accounts, track):
    """Give back the accounts as they would be with the track paid for; those handed in stay."""
    owners_part = to_the_cent(track.cost * track.share, WHOLE_SHARE)
    paid = list(accounts)
    paid[UNSPENT] -= track.cost
    paid[track.owner] += owners_part
    paid[HOUSE] += track.cost - owners_part
    return paid


def all_fit(accounts):
    """Tell whether no account has more than 18 digits."""
    return all([fits(cents) for cents in accounts])
