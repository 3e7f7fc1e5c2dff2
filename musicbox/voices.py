"""The calls that set what is heard: buy, fade, stop and echo."""

from musicbox.machine import OUT_OF_RANGE, UNSPENT, Echo, Voice, is_loaded, is_voice
from musicbox.till import after_payment, all_fit

LARGEST_GAIN = 32767
LARGEST_STEP = 65536
LARGEST_PACE = 32767
MOST_BOUGHT = 4294967295
MOST_ECHO_FRAMES = 2048
LARGEST_ECHO_GAIN = 16384

TOO_LITTLE_UNSPENT = -2
TOO_MANY_DIGITS_PAID = -3
NOT_PLAYING = -2


def are_gains(left, right):
    """Tell whether both are gains that a voice may have."""
    return 0 <= left <= LARGEST_GAIN and 0 <= right <= LARGEST_GAIN


def buy(machine, k, v, left, right, step):
    """Answer the call buy."""
    if not is_loaded(machine, k) or not is_voice(v):
        return [OUT_OF_RANGE]
    if not are_gains(left, right) or not 1 <= step <= LARGEST_STEP:
        return [OUT_OF_RANGE]
    track = machine.tracks[k]
    if machine.accounts[UNSPENT] < track.cost:
        return [TOO_LITTLE_UNSPENT]
    accounts = after_payment(machine.accounts, track)
    if not all_fit(accounts):
        return [TOO_MANY_DIGITS_PAID]
    machine.accounts = accounts
    track.bought = min(track.bought + 1, MOST_BOUGHT)
    machine.voices[v] = Voice(k, left, right, step)
    return [0]


def fade(machine, v, left, right, by):
    """Answer the call fade."""
    if not is_voice(v) or not are_gains(left, right) or not 1 <= by <= LARGEST_PACE:
        return [OUT_OF_RANGE]
    voice = machine.voices[v]
    if voice is None:
        return [NOT_PLAYING]
    voice.goals = [left, right]
    voice.pace = by
    return [0]


def stop(machine, v):
    """Answer the call stop."""
    if not is_voice(v):
        return [OUT_OF_RANGE]
    machine.voices[v] = None
    return [0]


def echo(machine, frames, gain):
    """Answer the call echo."""
    if not 0 <= frames <= MOST_ECHO_FRAMES or not 0 <= gain <= LARGEST_ECHO_GAIN:
        return [OUT_OF_RANGE]
    machine.echo = Echo(frames, gain)
    return [0]
