"""The call mix: the machine's next frames, and the bytes in which they are given out."""

from musicbox.levels import note_mix
from musicbox.machine import OUT_OF_RANGE
from musicbox.samples import in_eight_bits, low_bytes
from musicbox.sound import next_frame

MOST_MIXED = 1024
LAST_FORM = 2
LAST_HOW = 3
LEAST_GATE = -1
MOST_GATE = 32767

TWO_BYTE_FORM = 0
UNSIGNED_FORM = 1
BYTES_BY_FORM = (4, 2, 2)

JOINING_HOWS = (1, 3)
EXCHANGING_HOWS = (2, 3)


def mix(machine, n, form, how, gate, row):
    """Answer the call mix."""
    if not 0 <= n <= MOST_MIXED or not 0 <= form <= LAST_FORM:
        return [OUT_OF_RANGE]
    if not 0 <= how <= LAST_HOW or not LEAST_GATE <= gate <= MOST_GATE:
        return [OUT_OF_RANGE]
    frames = []
    while len(frames) < n:
        frames.append(arranged(next_frame(machine), how))
    note_mix(machine, frames)
    return [how_many_play(machine)] + given_out(frames, form, gate, row)


def how_many_play(machine):
    """Give back how many voices play."""
    return len([voice for voice in machine.voices if voice is not None])


def arranged(frame, how):
    """Give back a frame with its sides joined or exchanged, or as it is."""
    left = frame[0]
    right = frame[1]
    if how in JOINING_HOWS:
        middle = (left + right + 1) // 2
        left = middle
        right = middle
    if how in EXCHANGING_HOWS:
        return (right, left)
    return (left, right)


def given_out(frames, form, gate, row):
    """Give back the frames' bytes; where a frame doesn't pass the gate, the row's bytes stay."""
    size = BYTES_BY_FORM[form]
    given = []
    for frame in frames:
        if passes(frame, gate):
            given.extend(sample_bytes(frame[0], form))
            given.extend(sample_bytes(frame[1], form))
        else:
            given.extend(row[len(given):len(given) + size])
    return given


def passes(frame, gate):
    """Tell whether a side of the frame is farther from 0 than the gate."""
    return abs(frame[0]) > gate or abs(frame[1]) > gate


def sample_bytes(sample, form):
    """Give back the bytes of a sample in that form."""
    if form == TWO_BYTE_FORM:
        return low_bytes(sample, 2)
    short = in_eight_bits(sample)
    return [short + 128] if form == UNSIGNED_FORM else low_bytes(short, 1)
