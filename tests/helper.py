"""What the tests share: calls in plain texts, and three ways to know the answer.

- first_fault: the faults of a system's text, all gathered, the least taken.
- reckon: a ray reckoned at p over Python's fractions, written from the document's
  formulas with operators.
- true_ray: the law itself ("At element i") in decimals of 200 digits, with neither
  intervals nor the formulas of the reckoning.

reckon_at and true_at go on to a plane.
"""

import math
import re
from decimal import Decimal, getcontext
from fractions import Fraction

from enclosedrays.desk import at, trace

getcontext().prec = 200


def text(value):
    return [ord(sign) for sign in value]


def call(system, start, p, line=0):
    """trace of plain texts; start is "x y u v"."""
    numbers = [text(number) for number in start.split(" ")]
    return trace(line, p, text(system), *numbers)


class Told:
    """An answer of trace, taken apart; each element is six pairs of fractions."""

    def __init__(self, answer):
        if len(answer) < 3 or answer[0] < 0 or answer[0] != len(answer) - 3:
            raise ValueError(answer[:3])
        self.passed = answer[1]
        self.ending = answer[2]
        self.text = "".join(chr(byte) for byte in answer[3:])
        ends = [Fraction(number) for number in self.text.split(" ")] if self.text else []
        pairs = list(zip(ends[0::2], ends[1::2]))
        self.rays = [pairs[k:k + 6] for k in range(0, len(pairs), 6)]


def told(system, start, p, line=0):
    return Told(call(system, start, p, line))


def call_at(system, start, z, p, line=0):
    """at of plain texts; start is "x y u v"."""
    numbers = [text(number) for number in start.split(" ")]
    return at(line, p, text(system), *numbers, text(z))


def said_at(system, start, z, p, line=0):
    """What at tells, as a text."""
    answer = call_at(system, start, z, p, line)
    if answer[0] != len(answer) - 1:
        raise ValueError(answer[:3])
    return "".join(chr(byte) for byte in answer[1:])


def told_at(system, start, z, p, line=0):
    """What at tells: x's pair of fractions and y's; None if it answers -5."""
    if call_at(system, start, z, p, line) == [-5]:
        return None
    ends = [Fraction(number) for number in said_at(system, start, z, p, line).split(" ")]
    if len(ends) != 4:
        raise ValueError(ends)
    return [(ends[0], ends[1]), (ends[2], ends[3])]


# The faults of a system's text.

WORDS = "after clear conic curve flat glass into mirror radius start stop surface".split(" ")
BLANK = re.compile(r"(?:[ \t\n\r]|#[^\n]*)*")
NAME = re.compile(r"[A-Za-z_][A-Za-z0-9_]*")
NUMBER = re.compile(r"([0-9]+)(\.[0-9]+)?(?![A-Za-z0-9_.])")


def tokens_of(source):
    """(kind, place, content) of each token; the last is "end" or "none"."""
    found = []
    place = BLANK.match(source).end()
    while place < len(source):
        name = NAME.match(source, place)
        number = NUMBER.match(source, place)
        if name and len(name[0]) <= 32:
            found.append((name[0] if name[0] in WORDS else "name", place, name[0]))
            place = name.end()
        elif number and sum(sign.isdigit() for sign in number[0]) <= 18:
            found.append(("pointed" if number[2] else "whole", place, Fraction(number[0])))
            place = number.end()
        elif source[place] in ":,;/-":
            found.append((source[place], place, None))
            place += 1
        else:
            return found + [("none", place, None)]
        place = BLANK.match(source, place).end()
    return found + [("end", len(source), None)]


def grammar():
    """The document's grammar as nested tuples: a text is a token's kind."""
    number = ("or", ("row", "whole", ("perhaps", ("row", "/", "whole"))), "pointed")
    value = ("row", ("perhaps", "-"), number)
    shape = ("row", ("or", "flat", ("row", "curve", value), ("row", "radius", value)),
             ("perhaps", ("row", "conic", value)))
    clear = ("perhaps", ("row", "clear", number))
    glass = ("row", "glass", "name", ":", number, ",", number, ",", number, ";")
    element = ("or",
               ("row", "surface", "name", "after", number, "into", "name", shape, clear, ";"),
               ("row", "mirror", "name", "after", number, shape, clear, ";"),
               ("row", "stop", "name", "after", number, clear, ";"))
    return ("row", glass, ("any", glass), "start", "name", ";", ("any", element))


def derived(rule, kind):
    """The rules for what may follow, if a token of that kind comes first."""
    if isinstance(rule, str):
        return [("row",)] if rule == kind else []
    if rule[0] == "or":
        return [rest for choice in rule[1:] for rest in derived(choice, kind)]
    if rule[0] == "perhaps":
        return derived(rule[1], kind)
    if rule[0] == "any":
        return [("row", rest, rule) for rest in derived(rule[1], kind)]
    rests = []
    for k in range(1, len(rule)):
        rests += [("row", rest) + rule[k + 1:] for rest in derived(rule[k], kind)]
        if not may_be_empty(rule[k]):
            break
    return rests


def may_be_empty(rule):
    if isinstance(rule, str):
        return False
    if rule[0] == "or":
        return any(may_be_empty(choice) for choice in rule[1:])
    return rule[0] in ("perhaps", "any") or all(may_be_empty(part) for part in rule[1:])


def trimmed(rule):
    """The rule without what is used up, so that derived rules stay small."""
    while not isinstance(rule, str) and rule[0] == "row" and len(rule) > 1:
        head = trimmed(rule[1])
        if head == ("row",):
            rule = ("row",) + rule[2:]
        elif not isinstance(head, str) and head[0] == "row":
            return ("row",) + head[1:] + rule[2:]
        else:
            return ("row", head) + rule[2:]
    return rule


def grammar_fault(tokens):
    """The place of the first token that can't stand, or None."""
    rules = [grammar()]
    for kind, place, content in tokens:
        if kind == "none":
            return None
        if kind == "end":
            return None if any(may_be_empty(rule) for rule in rules) else place
        rules = list({trimmed(rest) for rule in rules for rest in derived(rule, kind)})
        if not rules:
            return place
    return None


def number_at(tokens, k):
    """The number whose first token is the k-th and the place of the token behind it, if both are there."""
    kinds = [token[0] for token in tokens[k:k + 3]]
    if kinds == ["whole", "/", "whole"]:
        if k + 3 < len(tokens) and tokens[k + 2][2] != 0:
            return tokens[k][2] / tokens[k + 2][2], tokens[k + 3][1]
    elif kinds[:1] in (["whole"], ["pointed"]):
        return tokens[k][2], tokens[k + 1][1]
    return None


def number_faults(tokens):
    faults = []
    for k in range(1, len(tokens)):
        before = tokens[k - 1][0]
        if before == "/" and tokens[k][0] == "whole" and tokens[k][2] == 0:
            faults.append((tokens[k][1], 6))
        if before == "radius" and tokens[k][0] == "-":
            k += 1
        found = number_at(tokens, k)
        if found and (before in (":", ",") and found[0] < 1 or before in ("radius", "clear") and found[0] == 0):
            faults.append((found[1], 6))
    return faults


def name_faults(tokens):
    faults = []
    glasses = []
    elements = []
    counts = {"glass": 0, "element": 0}
    for k, (kind, place, content) in enumerate(tokens):
        before = tokens[k - 1][0] if k else ""
        if kind in ("glass", "surface", "mirror", "stop"):
            group = "glass" if kind == "glass" else "element"
            counts[group] += 1
            faults += [(place, 5)] if counts[group] > 64 else []
        if kind == "name" and before in ("start", "into"):
            faults += [] if content in glasses else [(place, 4)]
        if kind == "name" and before in ("glass", "surface", "mirror", "stop"):
            group = glasses if before == "glass" else elements
            faults += [(place, 3)] if content in group else []
            group.append(content)
    return faults


def first_fault(source):
    """(place, kind) of the text's first fault, or None."""
    tokens = tokens_of(source)
    faults = name_faults(tokens) + number_faults(tokens)
    if tokens[-1][0] == "none":
        faults.append((tokens[-1][1], 1))
    misplaced = grammar_fault(tokens)
    if misplaced is not None:
        faults.append((misplaced, 2))
    return min(faults) if faults else None


# A system, of a text that is not at fault.

class Element:
    """What one element's text says: kind, gap, indexes behind (a surface's), c, k, clear."""

    def __init__(self, line, glasses):
        rows = re.sub(r"([-/]) +", r"\1", line).split()
        said = dict(zip(rows, rows[1:]))
        self.kind = rows[0]
        self.gap = Fraction(said["after"])
        self.glass = glasses[said["into"]] if self.kind == "surface" else None
        self.c = Fraction(0)
        if "curve" in said:
            self.c = Fraction(said["curve"])
        if "radius" in said:
            self.c = 1 / Fraction(said["radius"])
        self.k = Fraction(said.get("conic", "0"))
        self.clear = Fraction(said["clear"]) if "clear" in said else None


def parts_of(source):
    """(medium's indexes, elements); the names must be no words, numbers without blanks within."""
    glasses = {}
    medium = None
    elements = []
    for line in source.split(";")[:-1]:
        line = line.strip()
        if line.startswith("glass"):
            name, indexes = line[5:].split(":")
            glasses[name.strip()] = [Fraction(index.strip()) for index in indexes.split(",")]
        elif line.startswith("start"):
            medium = glasses[line[5:].strip()]
        else:
            elements.append(Element(line, glasses))
    return medium, elements


# A ray reckoned at p, over fractions.

class Span:
    def __init__(self, lo, hi):
        self.lo = Fraction(lo)
        self.hi = Fraction(hi)

    def __add__(self, other):
        other = span(other)
        return Span(self.lo + other.lo, self.hi + other.hi)

    def __neg__(self):
        return Span(-self.hi, -self.lo)

    def __sub__(self, other):
        return self + -span(other)

    def __mul__(self, other):
        other = span(other)
        products = [a * b for a in (self.lo, self.hi) for b in (other.lo, other.hi)]
        return Span(min(products), max(products))

    def __truediv__(self, other):
        return self * Span(1 / other.hi, 1 / other.lo)

    def __contains__(self, value):
        return self.lo <= value <= self.hi

    def squared(self):
        ends = sorted([self.lo ** 2, self.hi ** 2])
        return Span(0 if 0 in self else ends[0], ends[1])

    __radd__ = __add__
    __rmul__ = __mul__

    def __rsub__(self, other):
        return span(other) - self


def span(value):
    return value if isinstance(value, Span) else Span(value, value)


class End(Exception):
    pass


class Reckoning:
    """Goes as the steps of the document go, letter by letter."""

    def __init__(self, p):
        self.unit = Fraction(1, 2 ** p)

    def o(self, a):
        return Span(math.floor(a.lo / self.unit) * self.unit, math.ceil(a.hi / self.unit) * self.unit)

    def each(self, row):
        return [self.o(a) for a in row]

    def root(self, a):
        low = math.isqrt(math.floor(a.lo / self.unit ** 2))
        above = math.ceil(a.hi / self.unit ** 2)
        high = math.isqrt(above)
        return Span(low * self.unit, (high if high * high == above else high + 1) * self.unit)

    def begin(self, x, y, u, v):
        w = self.root(self.o(span(1 + u * u + v * v)))
        z = self.o(span(1) / w)
        return [span(x), span(y), span(0)], [self.o(u * z), self.o(v * z), z]

    def across(self, e, point):
        return self.each([-e.c * point[0], -e.c * point[1], 1 + -(e.c * (1 + e.k)) * point[2]])

    def product(self, a, b):
        return self.o(a[0] * b[0] + a[1] * b[1] + a[2] * b[2])

    def time(self, e, point, d, s):
        x, y, z = point
        S = self.o(2 * z - e.c * (x.squared() + y.squared() + (1 + e.k) * z.squared()))
        G = self.product(self.across(e, point), d)
        Q = self.o(d[0].squared() + d[1].squared() + (1 + e.k) * d[2].squared())
        R = self.o(G.squared() + (e.c * S) * Q)
        if R.hi < 0:
            raise End(1)
        if R.lo <= 0:
            raise End(4)
        W = s * self.root(R)
        H = self.o(G + W)
        if e.c == 0 and (s * G).hi < 0:
            raise End(1)
        if e.c == 0 and (s * G).lo <= 0:
            raise End(4)
        if 0 not in H:
            return self.o(-S / H)
        if e.c != 0 and 0 not in Q:
            return self.o((G - W) / (e.c * Q))
        raise End(4)

    def element(self, e, point, d, s, n, m):
        x, y, z = point
        point = [x, y, self.o(z + -(s * e.gap))]
        T = self.time(e, point, d, s)
        point = self.each([a + T * b for a, b in zip(point, d)])
        A = self.across(e, point)
        if A[2].hi <= 0:
            raise End(1)
        if A[2].lo <= 0:
            raise End(4)
        U = self.o(point[0].squared() + point[1].squared())
        if e.clear is not None and U.lo > e.clear ** 2:
            raise End(2)
        if e.clear is not None and U.hi > e.clear ** 2:
            raise End(4)
        return point, d if e.kind == "stop" else self.turned(e, A, d, s, n, m)

    def turned(self, e, A, d, s, n, m):
        V = self.o(A[0].squared() + A[1].squared() + A[2].squared())
        M = self.product(A, d)
        if V.lo <= 0:
            raise End(4)
        if e.kind == "mirror":
            share = self.o((-2 * M) / V)
            return self.each([a + share * b for a, b in zip(d, A)])
        B = self.o((n * n) * M.squared() + (m * m - n * n) * V)
        if B.hi < 0:
            raise End(3)
        if B.lo <= 0:
            raise End(4)
        j = self.o((s * self.root(B) - n * M) / V)
        F = self.each([n * a + j * b for a, b in zip(d, A)])
        return self.each([a * (1 / m) for a in F])


def reckon(source, start, p, line=0):
    """(rays, ending) as Told has them."""
    medium, elements = parts_of(source)
    reckoning = Reckoning(p)
    point, d = reckoning.begin(*[Fraction(number) for number in start.split(" ")])
    s = 1
    n = medium[line]
    rays = []
    for e in elements:
        m = e.glass[line] if e.glass else n
        try:
            point, d = reckoning.element(e, point, d, s, n, m)
        except End as end:
            return rays, end.args[0]
        rays.append([(a.lo, a.hi) for a in point + d])
        n = m
        s = -s if e.kind == "mirror" else s
    return rays, 0


def reckon_at(source, start, z, p, line=0):
    """What told_at is to give."""
    rays, ending = reckon(source, start, p, line)
    if ending != 0:
        return None
    reckoning = Reckoning(p)
    point, d = reckoning.begin(*[Fraction(number) for number in start.split(" ")])
    if rays:
        spans = [Span(*pair) for pair in rays[-1]]
        point, d = spans[:3], spans[3:]
    if 0 in d[2]:
        return None
    T = reckoning.o((Fraction(z) - point[2]) / d[2])
    return [(a.lo, a.hi) for a in reckoning.each([point[0] + T * d[0], point[1] + T * d[1]])]


# The law itself.

NEAR = Decimal(10) ** -90


class Unsure(Exception):
    """Something that decides is 0, or too near to it for decimals."""


def decimal(value):
    return Decimal(value.numerator) / Decimal(value.denominator)


def above(value):
    if abs(value) < NEAR:
        raise Unsure()
    return value > 0


def dot(a, b):
    return sum(i * j for i, j in zip(a, b))


def line_times(c, k, point, d):
    """How far along the line its points on the shell are."""
    a = c * (d[0] ** 2 + d[1] ** 2 + (1 + k) * d[2] ** 2)
    b = 2 * c * (point[0] * d[0] + point[1] * d[1] + (1 + k) * point[2] * d[2]) - 2 * d[2]
    e = c * (point[0] ** 2 + point[1] ** 2 + (1 + k) * point[2] ** 2) - 2 * point[2]
    if a == 0:
        above(b)
        return [-e / b]
    above(a)
    if not above(b * b - 4 * a * e):
        return []
    width = (b * b - 4 * a * e).sqrt()
    return [(-b + width) / (2 * a), (-b - width) / (2 * a)]


def met(c, k, point, d, s):
    """The points of the line where the ray meets the shell."""
    found = []
    for time in line_times(c, k, point, d):
        spot = [i + time * j for i, j in zip(point, d)]
        A = [-c * spot[0], -c * spot[1], 1 - c * (1 + k) * spot[2]]
        if above(A[2]) and above(s * dot(A, d)):
            found.append((spot, A))
    return found


def snell(d, A, n, m):
    """The way behind a surface, by the angles; None if thrown back inside."""
    normal = [i / dot(A, A).sqrt() for i in A]
    cosine = dot(normal, d)
    side = 1 if cosine > 0 else -1
    flat = [(i - cosine * j) * n / m for i, j in zip(d, normal)]
    if not above(1 - dot(flat, flat)):
        return None
    return [i + side * (1 - dot(flat, flat)).sqrt() * j for i, j in zip(flat, normal)]


def true_step(e, point, d, s, n, m):
    point = [point[0], point[1], point[2] - s * decimal(e.gap)]
    spots = met(decimal(e.c), decimal(e.k), point, d, s)
    if not spots:
        raise End(1)
    spot, A = spots[0]
    if e.clear is not None and above(spot[0] ** 2 + spot[1] ** 2 - decimal(e.clear) ** 2):
        raise End(2)
    if e.kind == "stop":
        return spot, d
    if e.kind == "mirror":
        return spot, [i - 2 * dot(A, d) / dot(A, A) * j for i, j in zip(d, A)]
    f = snell(d, A, n, m)
    if f is None:
        raise End(3)
    return spot, f


def true_start(start):
    x, y, u, v = [decimal(Fraction(number)) for number in start.split(" ")]
    length = (1 + u * u + v * v).sqrt()
    return [x, y, Decimal(0)], [u / length, v / length, 1 / length]


def true_ray(source, start, line=0):
    """(rays, ending); of each ray six decimals. Unsure where a grazing ray can't be decided."""
    medium, elements = parts_of(source)
    point, d = true_start(start)
    s = 1
    n = decimal(medium[line])
    rays = []
    for e in elements:
        m = decimal(e.glass[line]) if e.glass else n
        try:
            point, d = true_step(e, point, d, s, n, m)
        except End as end:
            return rays, end.args[0]
        rays.append(point + d)
        n = m
        s = -s if e.kind == "mirror" else s
    return rays, 0


def true_at(source, start, z, line=0):
    """x and y in the plane; None if the ray is lost. Unsure where it goes along the plane, too."""
    rays, ending = true_ray(source, start, line)
    if ending != 0:
        return None
    point, d = true_start(start)
    if rays:
        point, d = rays[-1][:3], rays[-1][3:]
    above(d[2])
    far = decimal(Fraction(z)) - point[2]
    return [point[0] + far * d[0] / d[2], point[1] + far * d[1] / d[2]]


# Systems and rays made up; made is a random.Random with a seed.

INDEXES = ("1", "3/2", "1.5168", "4/3", "2", "1.7", "1.0003")
CONICS = ("-1", "-2", "-1/2", "1", "-3", "0.25")


def signed(made, number):
    return made.choice(("", "-")) + number


def wild_number(made):
    """A number of a system's text, of any size, not 0."""
    big = 1 + made.randrange(10 ** made.randrange(1, 18))
    other = 1 + made.randrange(10 ** made.randrange(1, 18))
    return made.choice((f"{big}", f"1/{big}", f"{big}/{other}", f"{big % 1000}.{other % 10 ** 9 + 1:010}"))


def made_number(made, wild):
    """A number above 0."""
    return wild_number(made) if wild else f"{made.randrange(1, 60)}/{made.randrange(1, 30)}"


def made_index(made, wild):
    number = wild_number(made) if wild and made.random() < 0.2 else made.choice(INDEXES)
    return number if Fraction(number) >= 1 else "1"


def made_shape(made, wild):
    number = made_number(made, wild) if made.random() < 0.3 else f"{made.randrange(3, 60)}"
    shape = made.choice((" flat", f" curve {signed(made, '1/' + str(made.randrange(3, 60)))}",
                         f" curve {signed(made, number)}", f" radius {signed(made, number)}"))
    if made.random() < 0.5:
        shape += " conic " + made.choice(CONICS + (signed(made, made_number(made, wild)),))
    return shape


def made_system(made, wild):
    source = ""
    for k in range(3):
        source += f"glass g{k}:" + ",".join(made_index(made, wild) for line in range(3)) + ";"
    source += f"start g{made.randrange(3)};"
    for k in range(made.randrange(0, 7)):
        kind = made.choice(("surface", "surface", "mirror", "stop"))
        source += f"{kind} e{k} after " + made.choice(("0", "1", "5", made_number(made, wild)))
        source += f" into g{made.randrange(3)}" if kind == "surface" else ""
        source += "" if kind == "stop" else made_shape(made, wild)
        source += f" clear {made_number(made, wild)}" if made.random() < 0.25 else ""
        source += ";"
    return source


def made_start(made, wild):
    if wild and made.random() < 0.3:
        return " ".join(signed(made, wild_number(made)) for k in range(4))
    places = [made.choice(("0", signed(made, f"{made.randrange(60)}/{made.randrange(1, 20)}"))) for k in range(2)]
    slopes = [made.choice(("0", signed(made, f"{made.randrange(10)}/{made.randrange(1, 60)}"))) for k in range(2)]
    return " ".join(places + slopes)


def made_plane(made, wild):
    if wild and made.random() < 0.3:
        return signed(made, wild_number(made))
    return made.choice(("0", signed(made, f"{made.randrange(60)}/{made.randrange(1, 20)}")))


# Systems whose intervals grow more and more; their numbers were sought so that the way's z comes near to 0.

GREAT_P = 120
GREAT_START = "-333333333333333333 0 1/3 0"
AXIS_P = 200


def great_system(stops, gap="1"):
    """At GREAT_P x and z grow some 2^120 times at each stop; gap is the one before the first of these."""
    source = "glass a:1,1,1;glass h:99999999999999999,1,1;start a;stop s after 999999999999999999;"
    source += "surface q after 0 into h curve 99371515403644734/788027147 conic 1000000000;"
    return source + "".join(f"stop s{k} after {1 if k else gap};" for k in range(stops))


def axis_system(stops):
    """At AXIS_P z grows some 2^99 times at each stop; x and y stay, of a ray along the axis."""
    source = "glass a:1,1,1;glass g:99999999999999999/7,1,1;glass h:99999999/7,1,1;"
    source += "glass i:891414642155580021/369741877747802,1,1;start a;"
    for k, glass in enumerate("gghi"):
        source += f"surface in{k} after 0 into {glass} flat;surface out{k} after 0 into a flat;"
    return source + "".join(f"stop s{k} after 1;" for k in range(stops))
