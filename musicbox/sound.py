"""What is heard, frame after frame: a voice's frame and the machine's frame."""

from musicbox.machine import VOICES
from musicbox.samples import WHOLE, between, held, scaled


def next_frame(machine):
    """Give back the machine's next frame, left and right; voices and echo go on by it."""
    left = 0
    right = 0
    for v in range(VOICES):
        if machine.voices[v] is not None:
            frame = voice_frame(machine, v)
            left = held(left + frame[0])
            right = held(right + frame[1])
    return with_echo(machine.echo, left, right)


def with_echo(echo, left, right):
    """Give back the frame with the echo's next frame added; the echo keeps it and goes on."""
    if len(echo.frames) == 0:
        return (left, right)
    late = echo.frames[echo.place]
    frame = (held(left + scaled(late[0], echo.gain)), held(right + scaled(late[1], echo.gain)))
    echo.frames[echo.place] = frame
    echo.place = (echo.place + 1) % len(echo.frames)
    return frame


def voice_frame(machine, v):
    """Give back the next frame, left and right, of a voice that plays; it ends behind its track's last frame."""
    voice = machine.voices[v]
    frames = machine.tracks[voice.track].frames
    voice.gains = [moved_gain(voice.gains[side], voice.goals[side], voice.pace) for side in (0, 1)]
    frame = frame_at(frames, voice.place)
    voice.place += voice.step
    if voice.place // WHOLE >= len(frames):
        machine.voices[v] = None
    return (scaled(frame[0], voice.gains[0]), scaled(frame[1], voice.gains[1]))


def moved_gain(gain, goal, pace):
    """Give back a gain that has gone towards its goal by at most the pace."""
    if gain < goal:
        return min(gain + pace, goal)
    return max(gain - pace, goal)


def frame_at(frames, place):
    """Give back what a track's frames have, left and right, at a place; behind the last there is a frame of 0."""
    i = place // WHOLE
    way = place % WHOLE
    before = frames[i]
    behind = frames[i + 1] if i + 1 < len(frames) else (0, 0)
    return (between(before[0], behind[0], way), between(before[1], behind[1], way))
