"""What the machine keeps from call to call: tracks, voices, the echo, accounts, levels, ends and swing."""

TRACKS = 8
VOICES = 8
ACCOUNTS = 16

TILL = 0
UNSPENT = 1
HOUSE = 2
FIRST_OWNER = 3

WHOLE_SHARE = 10000

OUT_OF_RANGE = -1
TOO_MANY_DIGITS = -2


class Track:
    """A loaded track: its frames (left and right), what it costs, and how often it was bought."""

    def __init__(self, frames):
        self.frames = frames
        self.cost = 0
        self.owner = HOUSE
        self.share = 0
        self.bought = 0


class Voice:
    """A voice that plays: its track's number, where it stands, and its gains (left and right)."""

    def __init__(self, track, left, right, step):
        self.track = track
        self.place = 0
        self.step = step
        self.gains = [left, right]
        # The gains go towards the goals by at most the pace; here they are there already.
        self.goals = [left, right]
        self.pace = 0


class Echo:
    """The echo: its frames (left and right), which of them is the next, and its gain."""

    def __init__(self, frames, gain):
        self.frames = [(0, 0)] * frames
        self.place = 0
        self.gain = gain


class Machine:
    """One machine. A track that isn't loaded and a voice that doesn't play are None."""

    def __init__(self):
        self.begin()

    def begin(self):
        """Forget everything that was."""
        self.tracks = [None] * TRACKS
        self.voices = [None] * VOICES
        self.echo = Echo(0, 0)
        self.accounts = [0] * ACCOUNTS
        self.levels = [0, 0]
        self.ends = 0
        self.swing = 0


def init(machine):
    """Answer the call init."""
    machine.begin()
    return [0]


def is_track(k):
    """Tell whether there is a track of that number, loaded or not."""
    return 0 <= k < TRACKS


def is_loaded(machine, k):
    """Tell whether there is a track of that number and it is loaded."""
    return is_track(k) and machine.tracks[k] is not None


def is_voice(v):
    """Tell whether there is a voice of that number, playing or not."""
    return 0 <= v < VOICES


def is_account(a):
    """Tell whether there is an account of that number."""
    return 0 <= a < ACCOUNTS
