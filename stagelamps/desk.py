"""The desk: the patch that is held, the levels of the channels, and the calls on them."""

from stagelamps.levels import FULL_LEVEL, given_by
from stagelamps.patches import CHANNELS, TextFault, read_patch, write_patch
from stagelamps.reader import CallReader

MOST_TEXT = 8192

OUT_OF_BOUNDS = -1
TOO_LONG = -2
NO_SUCH_DIMMER = -4
NO_PATCH = -6

PATCH = 0
PRINT_PATCH = 1
SET_LEVEL = 2
LEVEL = 3
OUT = 4


class UnknownCall(ValueError):
    pass


def is_channel(number):
    return 1 <= number <= CHANNELS


class Desk:
    def __init__(self):
        self.dimmers = []
        self.levels = [0] * CHANNELS

    # Channels count from 1, the places of a list from 0.
    def level_of(self, channel):
        return self.levels[channel - 1]

    def find_dimmer(self, number):
        for dimmer in self.dimmers:
            if dimmer.number == number:
                return dimmer
        return None

    def answer_patch(self, text):
        if len(text) > MOST_TEXT:
            return [TOO_LONG]
        try:
            dimmers = read_patch(text)
        except TextFault as fault:
            return [NO_PATCH, fault.line, fault.why]
        self.dimmers = dimmers
        return [len(dimmers)]

    def answer_print(self):
        text = write_patch(self.dimmers)
        return [len(text)] + text

    def answer_set(self, channel, level):
        if not is_channel(channel) or level > FULL_LEVEL:
            return [OUT_OF_BOUNDS]
        self.levels[channel - 1] = level
        return [0]

    def answer_level(self, channel):
        if not is_channel(channel):
            return [OUT_OF_BOUNDS]
        return [self.level_of(channel)]

    def answer_out(self, number):
        dimmer = self.find_dimmer(number)
        if dimmer is None:
            return [NO_SUCH_DIMMER]
        return [given_by(dimmer, self.level_of(dimmer.channel))]


def answer_next(desk, reader):
    call = reader.take_number()
    if call == PATCH:
        return desk.answer_patch(reader.take_row())
    if call == PRINT_PATCH:
        return desk.answer_print()
    if call == SET_LEVEL:
        channel = reader.take_number()
        level = reader.take_number()
        return desk.answer_set(channel, level)
    if call == LEVEL:
        return desk.answer_level(reader.take_number())
    if call == OUT:
        return desk.answer_out(reader.take_number())
    raise UnknownCall(f"call {call} is not known")


def answers(calls):
    desk = Desk()
    reader = CallReader(calls)
    told = []
    while not reader.at_end():
        answer = answer_next(desk, reader)
        told.append(len(answer))
        told.extend(answer)
    return told
