"""Patches: their dimmers, their texts, and the first fault of a text that is no patch's."""

HIGHEST_DIMMER = 128
CHANNELS = 64
FULL_LIMIT = 100
MOST_LOAD = 5000
PHASES = 3
CURVES = ("linear", "square", "soft", "switch")

LINE_END = 10
BLANK = 32
NOUGHT = 48
NINE = 57
FIELDS = 6
MOST_DIGITS = 4

NO_SUCH_LINE = 1
NOT_RISING = 2


class Dimmer:
    def __init__(self, number, channel, curve, limit, load, phase):
        self.number = number
        self.channel = channel
        self.curve = curve
        self.limit = limit
        self.load = load
        self.phase = phase


class TextFault(ValueError):
    def __init__(self, line, why):
        self.line = line
        self.why = why


def bytes_of(words):
    return [ord(sign) for sign in words]


# A line keeps its byte 10, so that a last line without one can still be told from the others.
def lines_of(text):
    lines = []
    start = 0
    for place, sign in enumerate(text):
        if sign == LINE_END:
            lines.append(text[start:place + 1])
            start = place + 1
    if start < len(text):
        lines.append(text[start:])
    return lines


# Two blanks side by side make an empty field, which no field may be: so they need no rule of their own.
def fields_of(signs):
    fields = [[]]
    for sign in signs:
        if sign == BLANK:
            fields.append([])
        else:
            fields[-1].append(sign)
    return fields


def is_decimal(field):
    if len(field) == 0 or len(field) > MOST_DIGITS:
        return False
    if field[0] == NOUGHT and len(field) > 1:
        return False
    return all([NOUGHT <= sign <= NINE for sign in field])


def read_number(field, least, most):
    if not is_decimal(field):
        return None
    value = 0
    for sign in field:
        value = value * 10 + sign - NOUGHT
    if value < least or value > most:
        return None
    return value


def read_curve(field):
    for curve in CURVES:
        if field == bytes_of(curve):
            return curve
    return None


def read_dimmer(line):
    if line[-1] != LINE_END:
        return None
    fields = fields_of(line[:-1])
    if len(fields) != FIELDS:
        return None
    number = read_number(fields[0], 1, HIGHEST_DIMMER)
    channel = read_number(fields[1], 1, CHANNELS)
    curve = read_curve(fields[2])
    limit = read_number(fields[3], 1, FULL_LIMIT)
    load = read_number(fields[4], 0, MOST_LOAD)
    phase = read_number(fields[5], 1, PHASES)
    if None in (number, channel, curve, limit, load, phase):
        return None
    return Dimmer(number, channel, curve, limit, load, phase)


def read_patch(text):
    dimmers = []
    before = 0
    for place, line in enumerate(lines_of(text)):
        dimmer = read_dimmer(line)
        if dimmer is None:
            raise TextFault(place, NO_SUCH_LINE)
        if dimmer.number <= before:
            raise TextFault(place, NOT_RISING)
        dimmers.append(dimmer)
        before = dimmer.number
    return dimmers


def write_dimmer(dimmer):
    fields = [
        str(dimmer.number),
        str(dimmer.channel),
        dimmer.curve,
        str(dimmer.limit),
        str(dimmer.load),
        str(dimmer.phase),
    ]
    return bytes_of(" ".join(fields)) + [LINE_END]


def write_patch(dimmers):
    text = []
    for dimmer in dimmers:
        text.extend(write_dimmer(dimmer))
    return text
