"""The desk: takes a list of calls on one new machine and gives back what they answer."""

from musicbox.levels import level
from musicbox.machine import Machine, init
from musicbox.mixer import mix
from musicbox.owners import bonus, interest
from musicbox.statements import owed, tell, text
from musicbox.till import coin, pay
from musicbox.tracks import load, price
from musicbox.voices import buy, echo, fade, stop

INIT = 0
LOAD = 1
PRICE = 2
COIN = 3
BUY = 4
FADE = 5
STOP = 6
ECHO = 7
MIX = 8
PAY = 10
INTEREST = 11
BONUS = 12
TELL = 13
OWED = 14

# By a call's number: how many whole numbers it has, and whether a row stands behind them.
WHOLE_NUMBERS = (0, 3, 3, 0, 5, 4, 1, 2, 4, 0, 2, 3, 0, 1, 0, 1)
WITH_ROW = (False, True, True, True, False, False, False, False, True, False, True, False, True, False, False, False)


class Reader:
    """Goes through a list of calls from the first number to the last; the list stays as it is."""

    def __init__(self, calls):
        self.calls = calls
        self.place = 0

    def at_end(self):
        return self.place >= len(self.calls)

    def take_one(self):
        number = self.calls[self.place]
        self.place += 1
        return number

    def take_many(self, how_many):
        taken = self.calls[self.place:self.place + how_many]
        self.place += how_many
        return taken

    def take_row(self):
        return self.take_many(self.take_one())


def answers(calls):
    """Give back, call by call, how many numbers are answered and these numbers."""
    reader = Reader(calls)
    machine = Machine()
    given = []
    while not reader.at_end():
        answer = answer_next(machine, reader)
        given.append(len(answer))
        given.extend(answer)
    return given


def answer_next(machine, reader):
    """Carry out the reader's next call and give back what it answers."""
    number = reader.take_one()
    numbers = reader.take_many(WHOLE_NUMBERS[number])
    row = reader.take_row() if WITH_ROW[number] else []
    return answer_to(machine, number, numbers, row)


def answer_to(machine, number, numbers, row):
    """Carry out the call of that number and give back what it answers."""
    if number >= PAY:
        return answer_of_accounts(machine, number, numbers, row)
    if number == INIT:
        return init(machine)
    if number == LOAD:
        return load(machine, numbers[0], numbers[1], numbers[2], row)
    if number == PRICE:
        return price(machine, numbers[0], numbers[1], numbers[2], row)
    if number == COIN:
        return coin(machine, row)
    if number == BUY:
        return buy(machine, numbers[0], numbers[1], numbers[2], numbers[3], numbers[4])
    if number == FADE:
        return fade(machine, numbers[0], numbers[1], numbers[2], numbers[3])
    if number == STOP:
        return stop(machine, numbers[0])
    if number == ECHO:
        return echo(machine, numbers[0], numbers[1])
    if number == MIX:
        return mix(machine, numbers[0], numbers[1], numbers[2], numbers[3], row)
    return level(machine)


def answer_of_accounts(machine, number, numbers, row):
    """Carry out a call from pay on and give back what it answers."""
    if number == PAY:
        return pay(machine, numbers[0], numbers[1], row)
    if number == INTEREST:
        return interest(machine, numbers[0], numbers[1], numbers[2])
    if number == BONUS:
        return bonus(machine, row)
    if number == TELL:
        return tell(machine, numbers[0])
    if number == OWED:
        return owed(machine)
    return text(machine, numbers[0])
