"""Calls written as numbers, and answers split up call by call."""

from stagelamps.desk import answers

HIGHEST = 4294967295


def patch(text):
    return [0, len(text)] + list(text)


def print_patch():
    return [1]


def set_level(channel, level):
    return [2, channel, level]


def level(channel):
    return [3, channel]


def out(dimmer):
    return [4, dimmer]


def outs():
    return [5]


def channel(number):
    return [6, number]


def needs(dimmer, much):
    return [7, dimmer, much]


def load(phase):
    return [8, phase]


def evenly(loads):
    return [9, len(loads)] + list(loads)


def line(number=1, channel=1, curve="linear", limit=100, load=500, phase=1):
    return f"{number} {channel} {curve} {limit} {load} {phase}\n".encode("ascii")


def split_up(told):
    split = []
    place = 0
    while place < len(told):
        count = told[place]
        split.append(told[place + 1:place + 1 + count])
        place += 1 + count
    if place != len(told):
        raise AssertionError(f"the last count is wrong: {told}")
    return split


def ask(*calls):
    told = split_up(answers([number for call in calls for number in call]))
    if len(told) != len(calls):
        raise AssertionError(f"{len(calls)} calls, {len(told)} answers")
    return told


def ask_last(*calls):
    return ask(*calls)[-1]


def given_at_all_levels(curve, limit):
    """What one dimmer gives at 0 to 100, all asked on one desk."""
    calls = [patch(line(5, 9, curve, limit))]
    for value in range(0, 101):
        calls += [set_level(9, value), out(5)]
    return [told[0] for told in ask(*calls)[2::2]]


def whole_state():
    """Calls that together tell all that a desk holds, as far as calls can tell it."""
    levels = [level(number) for number in range(1, 65)]
    worked = [channel(number) for number in range(1, 65)]
    given = [out(dimmer) for dimmer in range(1, 129)]
    return [print_patch(), outs()] + levels + worked + given + [load(phase) for phase in (1, 2, 3)]


def state_after(*calls):
    return ask(*calls, *whole_state())[len(calls):]
