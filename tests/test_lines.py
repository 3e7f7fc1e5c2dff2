"""Whole lines of calls of all sixteen numbers, also against a second machine that is written in another way."""

import collections
import decimal
import random
import struct
import unittest

from musicbox.desk import answers
from tests.helper import (BYTES_A_FRAME, LEAST_WHOLE, MIXED_BYTES_A_FRAME, MOST, MOST_WHOLE, NO_AMOUNTS, ZERO_BELOW, amount,
                          answered, bonus, bonus_bytes, buy, coin, coin_bytes, echo, fade, heard, init, interest, level,
                          line, load, load_frames, mix, owed, parted, pay, pay_bytes, price, price_bytes, stop, tell, text,
                          told_levels, whole_answers)

MOST_CALLS = 200
MOST_NUMBERS = 30000

decimal.getcontext().prec = 60


def in_bounds(number, least, most):
    return sorted((least, number, most))[1]


def cents_of(row):
    digits = bytes(reversed(row[:9])).hex()
    if not digits.isdigit() or row[9] not in (0, 128):
        return None
    return int(digits) * (-1 if row[9] else 1)


def share_of(cents, parts, whole):
    exact = decimal.Decimal(cents) * parts / whole
    return int(exact.quantize(decimal.Decimal(1), rounding=decimal.ROUND_HALF_EVEN))


def to_single(number):
    return struct.unpack("<f", struct.pack("<f", number))[0]


class Refused(Exception):
    pass


class SecondMachine:
    """A machine that answers calls by floats, shifts, decimals and queues."""

    NAMES = "init load price coin buy fade stop echo mix level pay interest bonus tell owed text".split()
    NUMBERS = (0, 3, 3, 0, 5, 4, 1, 2, 4, 0, 2, 3, 0, 1, 0, 1)

    def answer(self, call):
        numbers = call[1:1 + self.NUMBERS[call[0]]]
        row = call[2 + len(numbers):]
        handed = [row] if len(call) > 1 + len(numbers) else []
        try:
            return getattr(self, self.NAMES[call[0]])(*numbers, *handed)
        except Refused as refused:
            return [refused.args[0]]

    def need(self, holds, refusal=-1):
        if not holds:
            raise Refused(refusal)

    def settle(self, changes, refusal=-2):
        money = collections.Counter(self.money)
        for account, cents in changes:
            money[account] += cents
        self.need(all(abs(cents) < 10 ** 18 for cents in money.values()), refusal)
        self.money = money
        return [0]

    def init(self):
        self.tracks = {}
        self.voices = {}
        self.money = collections.Counter()
        self.queue = collections.deque()
        self.echo_gain = 0
        self.levels = [0.0, 0.0]
        self.ends = 0
        self.swing = 0
        return [0]

    def load(self, k, kind, frames, row):
        self.need(k in range(8) and kind in range(4) and frames in range(1, 2049))
        samples = [byte * 256 - 32768 for byte in row] if kind < 2 else list(struct.unpack(f"<{len(row) // 2}h", bytes(row)))
        sides = (samples[0::2], samples[1::2]) if kind % 2 else (samples, samples)
        self.tracks[k] = {"sides": sides, "frames": frames, "price": 0, "owner": 2, "share": 0, "bought": 0}
        self.voices = {v: voice for v, voice in self.voices.items() if voice["k"] != k}
        return [0]

    def price(self, k, owner, share, row):
        cents = cents_of(row)
        self.need(k in self.tracks and owner in range(2, 16) and share in range(10001) and cents is not None)
        self.need(cents >= 0)
        self.tracks[k].update(price=cents, owner=owner, share=share)
        return [0]

    def coin(self, row):
        cents = cents_of(row)
        self.need(cents is not None and cents > 0)
        return self.settle([(0, -cents), (1, cents)])

    def buy(self, k, v, left, right, step):
        self.need(k in self.tracks and v in range(8) and step in range(1, 65537))
        self.need(left in range(32768) and right in range(32768))
        track = self.tracks[k]
        self.need(self.money[1] >= track["price"], -2)
        part = share_of(track["price"], track["share"], 10000)
        self.settle([(1, -track["price"]), (track["owner"], part), (2, track["price"] - part)], -3)
        track["bought"] += 1
        self.voices[v] = {"k": k, "p": 0, "step": step, "gain": [left, right], "goal": [left, right], "by": 1}
        return [0]

    def fade(self, v, left, right, by):
        self.need(v in range(8) and left in range(32768) and right in range(32768) and by in range(1, 32768))
        self.need(v in self.voices, -2)
        self.voices[v].update(goal=[left, right], by=by)
        return [0]

    def stop(self, v):
        self.need(v in range(8))
        self.voices.pop(v, None)
        return [0]

    def echo(self, frames, gain):
        self.need(frames in range(2049) and gain in range(16385))
        self.queue = collections.deque([[0, 0]] * frames)
        self.echo_gain = gain
        return [0]

    def scale(self, sample, gain):
        return in_bounds((sample * gain + 8192) >> 14, -32768, 32767)

    def voice_side(self, voice, side):
        away = voice["goal"][side] - voice["gain"][side]
        voice["gain"][side] += in_bounds(away, -voice["by"], voice["by"])
        samples = self.tracks[voice["k"]]["sides"][side] + [0]
        i = voice["p"] >> 14
        f = voice["p"] & 16383
        sample = (samples[i] * 16384 + (samples[i + 1] - samples[i]) * f + 8192) >> 14
        return self.scale(sample, voice["gain"][side])

    def frame(self):
        total = [0, 0]
        for v in sorted(self.voices):
            voice = self.voices[v]
            for side in range(2):
                total[side] = in_bounds(total[side] + self.voice_side(voice, side), -32768, 32767)
            voice["p"] += voice["step"]
            if voice["p"] >> 14 >= self.tracks[voice["k"]]["frames"]:
                self.voices.pop(v)
        if self.queue:
            late = self.queue.popleft()
            total = [in_bounds(here + self.scale(there, self.echo_gain), -32768, 32767) for here, there in zip(total, late)]
            self.queue.append(total)
        return total

    def mix(self, n, form, how, gate, row):
        self.need(n in range(1025) and form in range(3) and how in range(4) and gate in range(-1, 32768))
        out = bytearray(row)
        size = 2 if form else 4
        frames = []
        for i in range(n):
            left, right = self.frame()
            if how & 1:
                left = right = (left + right + 1) >> 1
            if how & 2:
                left, right = right, left
            frames.append((left, right))
            short = [min((sample + 128) >> 8, 127) for sample in (left, right)]
            if max(abs(left), abs(right)) > gate:
                out[i * size:i * size + size] = (struct.pack("<hh", left, right), bytes(t + 128 for t in short),
                                                 struct.pack("bb", *short))[form]
        self.note(frames)
        return [len(self.voices)] + list(out)

    def note(self, frames):
        samples = [sample for frame in frames for sample in frame]
        for side in range(2):
            peaks = [min(abs(sample), 32767) for sample in samples[side::2]]
            self.levels[side] = max([to_single(self.levels[side] * 0.75)] + peaks)
        self.ends += sum(sample in (32767, -32768) for sample in samples)
        self.swing = sum(abs(min((sample + 128) >> 8, 127)) for sample in samples)

    def level(self):
        return [0] + list(struct.pack("<IIQQ", round(self.levels[0]), round(self.levels[1]), self.ends, self.swing))

    def pay(self, payer, to, row):
        cents = cents_of(row)
        self.need(payer in range(16) and to in range(16) and cents is not None and cents >= 0)
        return self.settle([(payer, -cents), (to, cents)])

    def interest(self, a, rate, periods):
        self.need(a in range(3, 16) and rate in range(-100000, 100001) and periods in range(1, 1201))
        was = self.money
        try:
            for period in range(periods):
                cents = share_of(self.money[a], rate, 100000)
                self.settle([(a, cents), (2, -cents)])
        except Refused:
            self.money = was
            raise
        return [0]

    def bonus(self, row):
        cents = cents_of(row)
        self.need(cents is not None and cents > 0)
        bought = collections.Counter()
        for track in self.tracks.values():
            if track["owner"] != 2:
                bought[track["owner"]] += track["bought"]
        whole = sum(bought.values())
        self.need(whole, -3)
        parts = {a: divmod(cents * bought[a], whole) for a in bought}
        left = cents - sum(part for part, remainder in parts.values())
        favoured = sorted(parts, key=lambda a: (-parts[a][1], a))[:left]
        self.settle([(a, parts[a][0] + (a in favoured)) for a in parts] + [(2, -cents)])
        for track in self.tracks.values():
            track["bought"] = 0
        return [0]

    def tell(self, a):
        self.need(a in range(16))
        return [0] + amount(self.money[a])

    def owed(self):
        cents = sum(cents for a, cents in self.money.items() if a > 0 and cents > 0)
        self.need(cents <= MOST, -2)
        return [0] + amount(cents)

    def text(self, a):
        self.need(a in range(16))
        return [0] + list(f"{decimal.Decimal(self.money[a]).scaleb(-2):25,.2f}".encode("ascii")) + [0]


class Chooser:
    """Makes calls by chance, always the same ones for the same seed."""

    def __init__(self, seed):
        self.chance = random.Random(seed)

    def number(self, least, most):
        """Mostly a number of the range, its ends among them; now and then one outside."""
        kind = self.chance.random()
        if kind < 0.015:
            return self.chance.choice((least - 1, most + 1, LEAST_WHOLE, MOST_WHOLE))
        if kind < 0.2:
            return self.chance.choice((least, most))
        return self.chance.randint(least, most)

    def row(self, least):
        kind = self.chance.random()
        if kind < 0.03:
            return list(self.chance.choice((*NO_AMOUNTS, ZERO_BELOW, amount(-5), amount(0))))
        if kind < 0.08:
            return amount(MOST - self.chance.randint(0, 3))
        return amount(self.chance.randint(least, 10 ** self.chance.choice((1, 2, 3, 5, 9, 17, 18)) - 1))

    def bytes(self, how_many):
        kind = self.chance.random()
        if kind < 0.3:
            return [self.chance.choice((0, 255, 127, 128)) for place in range(how_many)]
        return [self.chance.randrange(256) for place in range(how_many)]

    def frames(self, most):
        return self.chance.choice((1, 2, 3, self.chance.randint(1, 40), self.chance.randint(1, 40), self.number(1, most)))

    def load(self):
        k, kind, frames = self.number(0, 7), self.number(0, 3), self.frames(2048)
        in_range = 0 <= k <= 7 and 0 <= kind <= 3 and 1 <= frames <= 2048
        return load(k, kind, frames, self.bytes(BYTES_A_FRAME[kind] * frames) if in_range else [])

    def mix(self):
        n, form, how = self.frames(1024) - self.chance.randint(0, 1), self.number(0, 2), self.number(0, 3)
        gate = self.chance.choice((-1, 0, self.number(-1, 32767), self.chance.randint(0, 5000)))
        in_range = 0 <= n <= 1024 and 0 <= form <= 2 and 0 <= how <= 3 and -1 <= gate <= 32767
        return mix(n, form, how, gate, self.bytes(MIXED_BYTES_A_FRAME[form] * n) if in_range else [])

    def gain(self):
        return self.chance.choice((16384, self.number(0, 32767)))

    def call(self):
        number = self.number
        chosen = self.chance.choice(
            ("load", "price", "coin", "buy", "buy", "buy", "fade", "stop", "echo", "mix", "mix", "mix", "level", "pay",
             "interest", "bonus", "tell", "owed", "text"))
        if chosen in ("load", "mix"):
            return getattr(self, chosen)()
        return {
            "price": lambda: price_bytes(number(0, 7), number(2, 15), number(0, 10000), self.row(0)),
            "coin": lambda: coin_bytes(self.row(1)),
            "buy": lambda: buy(number(0, 7), number(0, 7), self.gain(), self.gain(),
                               self.chance.choice((16384, 8192, number(1, 65536), number(1, 20000)))),
            "fade": lambda: fade(number(0, 7), self.gain(), self.gain(), self.chance.choice((number(1, 32767), 300))),
            "stop": lambda: stop(number(0, 7)),
            "echo": lambda: echo(self.chance.choice((number(0, 2048), 0, 1, 2, 5)), number(0, 16384)),
            "level": level,
            "pay": lambda: pay_bytes(number(0, 15), number(0, 15), self.row(0)),
            "interest": lambda: interest(number(3, 15), self.chance.choice((number(-100000, 100000), number(-99, 99))),
                                         self.chance.choice((1, 2, 12, number(1, 1200)))),
            "bonus": lambda: bonus_bytes(self.row(1)),
            "tell": lambda: tell(number(0, 15)),
            "owed": owed,
            "text": lambda: text(number(0, 15)),
        }[chosen]()

    def calls(self):
        """A line of calls, as many as fit."""
        most = self.chance.choice((5, 40, MOST_CALLS, MOST_CALLS, MOST_CALLS))
        made = [init()] + [load(k, 0, 8, self.bytes(8)) for k in range(0, 8, 2)]
        left = MOST_NUMBERS - len(line(*made))
        while len(made) < most and left > 0:
            call = init() if self.chance.random() < 0.004 else self.call()
            if len(call) <= left:
                made.append(call)
                left -= len(call)
        return made


class TestAgainstASecondMachine(unittest.TestCase):
    def test_lines_by_chance(self):
        seen = collections.Counter()
        for seed in range(60):
            calls = Chooser(seed).calls()
            handed = line(*calls)
            copy = list(handed)
            given = parted(answers(handed))
            self.assertEqual(handed, copy)
            self.assertEqual(len(given), len(calls))
            second = SecondMachine()
            for place, call in enumerate(calls):
                self.assertEqual(given[place], second.answer(call), (seed, place, call[:8]))
                seen[call[0], min(given[place][0], 0)] += 1
            self.assertEqual(parted(answers(handed)), given)
        # Every call is answered and, where the document tells a refusal of it, refused.
        refusals = {1: (-1,), 2: (-1,), 3: (-1, -2), 4: (-1, -2), 5: (-1, -2), 6: (-1,), 7: (-1,), 8: (-1,), 10: (-1, -2),
                    11: (-1, -2), 12: (-1, -2, -3), 13: (-1,), 14: (-2,), 15: (-1,)}
        for number in range(16):
            for refusal in (0, *refusals.get(number, ())):
                self.assertGreater(seen[number, refusal], 0, (number, refusal))


class TestWholeLines(unittest.TestCase):
    EVENING = (
        init(), load_frames(0, [(1000, -1000), (2000, -2000), (3000, -3000)]), load_frames(1, [(32767, -32768)] * 2),
        price(0, 3, 5000, 101), price(1, 15, 10000, 50), coin(500), buy(0, 0), buy(1, 7, 8192, 8192, 8192), echo(2, 8192),
        mix(2), fade(0, 0, 0, 8192), mix(3), level(), tell(1), tell(2), text(3), bonus(99), tell(3), tell(15),
        interest(15, 10000, 2), pay(15, 4, 20), tell(15), owed(), text(2), stop(7), mix(1, 2, 1, 32767, [9, 8]))

    def test_an_evening(self):
        given = whole_answers(*self.EVENING)
        self.assertEqual([answer[0] for answer in given], [0] * 9 + [2] + [0] * 16)
        # Voice 0 goes to half its loudness ahead of its last frame. Voice 7 has half of it, 16384 and -16384, and at last
        # half of what lies between its last frame and 0. What was two frames before comes back at half its loudness.
        self.assertEqual(heard(*self.EVENING[:-1]), [
            (17384, -17384), (18384, -18384), (1500 + 16384 + 8692, -1500 - 16384 - 8692), (8192 + 9192, -8192 - 9192),
            (13288, -13288)])
        self.assertEqual(told_levels(given[12]), (26576, 26576, 0, 104 + 104 + 68 + 68 + 52 + 52))
        self.assertEqual(given[13:15], [[0] + amount(349), [0] + amount(51)])
        self.assertEqual(bytes(given[15][1:]), b"                     0.50\0")
        self.assertEqual(given[17:19], [[0] + amount(50 + 50), [0] + amount(50 + 49)])
        self.assertEqual(given[21:23], [[0] + amount(100), [0] + amount(349 + 100 + 20 + 100)])
        self.assertEqual(bytes(given[23][1:]), b"                    -0.69\0")
        self.assertEqual(given[25], [0, 9, 8])

    def test_init_in_the_midst(self):
        alone = answers(line(*self.EVENING))
        self.assertEqual(answers(line(*self.EVENING, *self.EVENING, *self.EVENING)), alone * 3)
        self.assertEqual(answered(*self.EVENING, init(), buy(0, 0), fade(7, 1, 1, 1), bonus(1)), answered(*self.EVENING) + [
            0, -1, -2, -3])
        self.assertEqual(whole_answers(*self.EVENING, init(), level(), owed(), tell(2), mix(2))[-4:],
                         [[0] * 25, [0] * 11, [0] * 11, [0] * 9])

    def test_200_calls_and_30000_numbers(self):
        calls = [init(), load(0, 0, 2048, [i % 256 for i in range(2048)]), load(2, 3, 1200), echo(7, 9000)]
        calls += [buy(0, v, 9000 + v, 8000 - v, 3000 + 1111 * v) for v in range(8)]
        calls += [mix(1024, form, how) for form, how in ((0, 0), (1, 0), (2, 1), (1, 2), (2, 3), (0, 2), (1, 0), (1, 1))]
        calls += [price(0, 3, 0, 0)]
        calls += [interest(3, 100000, 1200), text(3), bonus(5), interest(3, -9, 1200), mix(0), owed()] * 28
        calls += [level()] * (MOST_CALLS - 1 - len(calls))
        # The last one, of one byte to a frame, brings it to the very most.
        calls.append(load(1, 0, MOST_NUMBERS - len(line(*calls)) - 5))
        handed = line(*calls)
        self.assertEqual((len(calls), len(handed)), (MOST_CALLS, MOST_NUMBERS))
        second = SecondMachine()
        self.assertEqual(parted(answers(handed)), [second.answer(call) for call in calls])


if __name__ == "__main__":
    unittest.main()
