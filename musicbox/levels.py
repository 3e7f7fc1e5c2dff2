"""What the machine tells of its mixes: the levels, ends and swing, and the call level."""

from musicbox.rounding import to_the_nearest
from musicbox.samples import LEAST_SAMPLE, MOST_SAMPLE, in_eight_bits, low_bytes

# A level is kept as a whole number of the smallest steps that single floats have; so many of them (2 to the power 149)
# make 1. Every single float is such a number, also the very small ones.
STEPS_IN_ONE = 713623846352979940529142984724747568191373312

# A single float has 24 binary digits; what needs more is rounded.
FIRST_TOO_LONG = 16777216

LEVEL_BYTES = 4
COUNT_BYTES = 8


def level(machine):
    """Answer the call level."""
    answer = [0]
    for steps in machine.levels:
        answer.extend(low_bytes(to_the_nearest(steps, STEPS_IN_ONE), LEVEL_BYTES))
    answer.extend(low_bytes(machine.ends, COUNT_BYTES))
    answer.extend(low_bytes(machine.swing, COUNT_BYTES))
    return answer


def note_mix(machine, frames):
    """Bring levels, ends and swing up to date with the frames that a mix gives out."""
    swing = 0
    for side in (0, 1):
        samples = [frame[side] for frame in frames]
        machine.levels[side] = max(peak(samples) * STEPS_IN_ONE, three_quarters(machine.levels[side]))
        machine.ends += samples.count(LEAST_SAMPLE) + samples.count(MOST_SAMPLE)
        swing += sum([abs(in_eight_bits(sample)) for sample in samples])
    machine.swing = swing


def peak(samples):
    """Give back how far from 0 the farthest sample is, of none 0."""
    farthest = max([abs(sample) for sample in samples], default=0)
    return min(farthest, MOST_SAMPLE)


def three_quarters(steps):
    """Give back three quarters of a level, rounded to the nearest single float, of two the even one."""
    grain = 1
    while steps * 3 >= FIRST_TOO_LONG * 4 * grain:
        grain = grain * 2
    return to_the_nearest(steps * 3, 4 * grain) * grain
