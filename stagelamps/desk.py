"""The desk: the patch that is held, the levels of the channels, and the calls on them."""

from stagelamps.dealings import deal_evenly
from stagelamps.levels import FULL_LEVEL, given_by, least_level
from stagelamps.patches import CHANNELS, MOST_LOAD, PHASES, TextFault, read_patch, write_patch
from stagelamps.reader import CallReader

MOST_TEXT = 8192
MOST_DEALT = 9

OUT_OF_BOUNDS = -1
TOO_LONG = -2
NO_SUCH_LEVEL = -3
NO_SUCH_DIMMER = -4
NO_PATCH = -6

PATCH = 0
PRINT_PATCH = 1
SET_LEVEL = 2
LEVEL = 3
OUT = 4
OUTS = 5
CHANNEL = 6
NEEDS = 7
LOAD = 8
EVENLY = 9


class UnknownCall(ValueError):
    pass


def is_channel(number):
    return 1 <= number <= CHANNELS


def is_phase(number):
    return 1 <= number <= PHASES


def can_be_dealt(loads):
    return len(loads) <= MOST_DEALT and all([load <= MOST_LOAD for load in loads])


class Desk:
    def __init__(self):
        self.dimmers = []
        self.levels = [0] * CHANNELS

    # Channels count from 1, the places of a list from 0.
    def level_of(self, channel):
        return self.levels[channel - 1]

    def given_now(self, dimmer):
        return given_by(dimmer, self.level_of(dimmer.channel))

    def find_dimmer(self, number):
        for dimmer in self.dimmers:
            if dimmer.number == number:
                return dimmer
        return None

    def answer_patch(self, text):
        if len(text) > MOST_TEXT:
            return [TOO_LONG]
        try:
            dimmers = read_patch(text)
        except TextFault as fault:
            return [NO_PATCH, fault.line, fault.why]
        self.dimmers = dimmers
        return [len(dimmers)]

    def answer_print(self):
        text = write_patch(self.dimmers)
        return [len(text)] + text

    def answer_set(self, channel, level):
        if not is_channel(channel) or level > FULL_LEVEL:
            return [OUT_OF_BOUNDS]
        self.levels[channel - 1] = level
        return [0]

    def answer_level(self, channel):
        if not is_channel(channel):
            return [OUT_OF_BOUNDS]
        return [self.level_of(channel)]

    def answer_out(self, number):
        dimmer = self.find_dimmer(number)
        if dimmer is None:
            return [NO_SUCH_DIMMER]
        return [self.given_now(dimmer)]

    def answer_outs(self):
        given = [self.given_now(dimmer) for dimmer in self.dimmers]
        return [len(given)] + given

    def answer_channel(self, channel):
        if not is_channel(channel):
            return [OUT_OF_BOUNDS]
        numbers = [dimmer.number for dimmer in self.dimmers if dimmer.channel == channel]
        return [len(numbers)] + numbers

    def answer_needs(self, number, much):
        dimmer = self.find_dimmer(number)
        if dimmer is None:
            return [NO_SUCH_DIMMER]
        level = least_level(dimmer, much)
        if level is None:
            return [NO_SUCH_LEVEL]
        return [level]

    def answer_load(self, phase):
        if not is_phase(phase):
            return [OUT_OF_BOUNDS]
        return [sum([dimmer.load * self.given_now(dimmer) for dimmer in self.dimmers if dimmer.phase == phase])]

    def answer_evenly(self, loads):
        if not can_be_dealt(loads):
            return [OUT_OF_BOUNDS]
        dealing = deal_evenly(loads)
        return [max(dealing.sums)] + dealing.phases


def answer_next(desk, reader):
    call = reader.take_number()
    if call == PATCH:
        return desk.answer_patch(reader.take_row())
    if call == PRINT_PATCH:
        return desk.answer_print()
    if call == SET_LEVEL:
        channel = reader.take_number()
        level = reader.take_number()
        return desk.answer_set(channel, level)
    if call == LEVEL:
        return desk.answer_level(reader.take_number())
    if call == OUT:
        return desk.answer_out(reader.take_number())
    if call == OUTS:
        return desk.answer_outs()
    if call == CHANNEL:
        return desk.answer_channel(reader.take_number())
    if call == NEEDS:
        number = reader.take_number()
        much = reader.take_number()
        return desk.answer_needs(number, much)
    if call == LOAD:
        return desk.answer_load(reader.take_number())
    if call == EVENLY:
        return desk.answer_evenly(reader.take_row())
    raise UnknownCall(f"call {call} is not known")


def answers(calls):
    desk = Desk()
    reader = CallReader(calls)
    told = []
    while not reader.at_end():
        answer = answer_next(desk, reader)
        told.append(len(answer))
        told.extend(answer)
    return told
