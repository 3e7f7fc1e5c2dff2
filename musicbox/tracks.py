"""The calls that make a track and set its price: load and price."""

from musicbox.amounts import read_at_least
from musicbox.machine import ACCOUNTS, HOUSE, OUT_OF_RANGE, VOICES, WHOLE_SHARE, Track, is_loaded, is_track

ONE_BYTE_KINDS = (0, 1)
TWO_SIDED_KINDS = (1, 3)
LAST_KIND = 3
MOST_FRAMES = 2048


def load(machine, k, kind, frames, row):
    """Answer the call load."""
    if not is_track(k) or not 0 <= kind <= LAST_KIND or not 1 <= frames <= MOST_FRAMES:
        return [OUT_OF_RANGE]
    machine.tracks[k] = Track(frames_of(kind, row))
    end_voices(machine, k)
    return [0]


def frames_of(kind, row):
    """Give back the frames, left and right, that bytes of that kind make."""
    samples = samples_of(kind, row)
    if kind in TWO_SIDED_KINDS:
        return [(samples[i], samples[i + 1]) for i in range(0, len(samples), 2)]
    return [(sample, sample) for sample in samples]


def samples_of(kind, row):
    """Give back the samples that bytes of that kind make, one behind another."""
    if kind in ONE_BYTE_KINDS:
        return [(byte - 128) * 256 for byte in row]
    return [signed(row[i], row[i + 1]) for i in range(0, len(row), 2)]


def signed(low, high):
    """Give back the number, with its sign, that two bytes make."""
    number = high * 256 + low
    return number - 65536 if number > 32767 else number


def end_voices(machine, k):
    """Let the voices that play track k end."""
    for v in range(VOICES):
        voice = machine.voices[v]
        if voice is not None and voice.track == k:
            machine.voices[v] = None


def price(machine, k, owner, share, row):
    """Answer the call price."""
    if not is_loaded(machine, k) or not HOUSE <= owner < ACCOUNTS or not 0 <= share <= WHOLE_SHARE:
        return [OUT_OF_RANGE]
    cost = read_at_least(row, 0)
    if cost is None:
        return [OUT_OF_RANGE]
    track = machine.tracks[k]
    track.cost = cost
    track.owner = owner
    track.share = share
    return [0]
