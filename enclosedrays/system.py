"""A system, read from its text."""

from enclosedrays.intervals import negative, over, whole
from enclosedrays.refusals import TextFault
from enclosedrays.tokens import scan

MOST_GLASSES = 64
MOST_PARTS = 64

CANNOT_STAND = 2
NAME_TWICE = 3
NO_GLASS = 4
TOO_MANY = 5
BAD_NUMBER = 6


class Shape:
    def __init__(self, curve, conic):
        self.curve = curve
        self.conic = conic


class Part:
    """An element: a surface, a mirror or a stop, with the gap before it.

    glass is the three indexes behind a surface, else None; limit is how far from
    the axis light is let through, None if anywhere.
    """

    def __init__(self, kind, gap, glass, shape, limit):
        self.kind = kind
        self.gap = gap
        self.glass = glass
        self.shape = shape
        self.limit = limit


class System:
    """medium is the three indexes that light comes in."""

    def __init__(self, medium, parts):
        self.medium = medium
        self.parts = parts


class Reader:
    """Goes through a text; token is the one that is looked at.

    No token behind it has been looked at, so the first fault found is the first
    by place.
    """

    def __init__(self, text):
        self.text = text
        self.token = scan(text, 0)

    def advance(self):
        self.token = scan(self.text, self.token.behind)

    def need(self, kinds):
        if self.token.kind not in kinds:
            raise TextFault(self.token.place, CANNOT_STAND)

    def take(self, kind):
        self.need((kind,))
        self.advance()


def read_number(reader):
    reader.need(("whole", "pointed"))
    first = reader.token
    reader.advance()
    if first.kind == "pointed" or reader.token.kind != "/":
        return first.value
    reader.advance()
    reader.need(("whole",))
    below = reader.token.value
    if below.low == 0:
        raise TextFault(reader.token.place, BAD_NUMBER)
    reader.advance()
    return over(first.value, below)


def read_value(reader):
    if reader.token.kind != "-":
        return read_number(reader)
    reader.advance()
    return negative(read_number(reader))


def read_new_name(reader, names):
    reader.need(("name",))
    name = reader.token.value
    if name in names:
        raise TextFault(reader.token.place, NAME_TWICE)
    reader.advance()
    return name


def read_known_glass(reader, glasses):
    reader.need(("name",))
    name = reader.token.value
    if name not in glasses:
        raise TextFault(reader.token.place, NO_GLASS)
    reader.advance()
    return glasses[name]


def read_index(reader, mark):
    """An index and the mark behind it, where an index below 1 is told."""
    value = read_number(reader)
    reader.need((mark,))
    if value.low < value.size:
        raise TextFault(reader.token.place, BAD_NUMBER)
    reader.advance()
    return value


def read_glass(reader, glasses):
    if len(glasses) == MOST_GLASSES:
        raise TextFault(reader.token.place, TOO_MANY)
    reader.take("glass")
    name = read_new_name(reader, glasses)
    reader.take(":")
    glasses[name] = [read_index(reader, mark) for mark in (",", ",", ";")]


def read_curve(reader):
    reader.need(("flat", "curve", "radius"))
    kind = reader.token.kind
    reader.advance()
    if kind == "flat":
        return whole(0)
    value = read_value(reader)
    if kind == "curve":
        return value
    reader.need(("conic", "clear", ";"))
    if value.low == 0:
        raise TextFault(reader.token.place, BAD_NUMBER)
    return over(whole(1), value)


def read_shape(reader):
    curve = read_curve(reader)
    if reader.token.kind != "conic":
        return Shape(curve, whole(0))
    reader.advance()
    return Shape(curve, read_value(reader))


def read_clear(reader):
    if reader.token.kind != "clear":
        return None
    reader.advance()
    limit = read_number(reader)
    reader.need((";",))
    if limit.low == 0:
        raise TextFault(reader.token.place, BAD_NUMBER)
    return limit


def read_part(reader, glasses, names):
    reader.need(("surface", "mirror", "stop"))
    if len(names) == MOST_PARTS:
        raise TextFault(reader.token.place, TOO_MANY)
    kind = reader.token.kind
    reader.advance()
    name = read_new_name(reader, names)
    names[name] = True
    reader.take("after")
    gap = read_number(reader)
    glass = None
    if kind == "surface":
        reader.take("into")
        glass = read_known_glass(reader, glasses)
    shape = Shape(whole(0), whole(0)) if kind == "stop" else read_shape(reader)
    limit = read_clear(reader)
    reader.take(";")
    return Part(kind, gap, glass, shape, limit)


def read_system(text):
    """The system that text tells; TextFault at its first fault."""
    reader = Reader(text)
    glasses = {}
    reader.need(("glass",))
    while reader.token.kind == "glass":
        read_glass(reader, glasses)
    reader.take("start")
    medium = read_known_glass(reader, glasses)
    reader.take(";")
    names = {}
    parts = []
    while reader.token.kind != "end":
        parts.append(read_part(reader, glasses, names))
    return System(medium, parts)
