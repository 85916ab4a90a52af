"""A ray reckoned at a fineness p, from element to element.

The remarks name the document's letters. Rounding stands just where the document
has it: what lies between two of its roundings is exact.
"""

from enclosedrays.intervals import has_zero, is_above, minus, negative, outward, over, plus, root, signed
from enclosedrays.intervals import square, times, whole
from enclosedrays.refusals import Lost

THROUGH = 0
MISSES = 1
BLOCKED = 2
THROWN_BACK = 3
LEFT_UNDECIDED = 4


class Triple:
    """Three intervals: a point, a way, or what stands across."""

    def __init__(self, x, y, z):
        self.x = x
        self.y = y
        self.z = z


class Light:
    """Where a ray is, its way, the index's size there, and the sign of the light's way."""

    def __init__(self, point, way, index, sign):
        self.point = point
        self.way = way
        self.index = index
        self.sign = sign


def sum_of_three(x, y, z):
    return plus(plus(x, y), z)


def inner_product(a, b, p):
    return outward(sum_of_three(times(a.x, b.x), times(a.y, b.y), times(a.z, b.z)), p)


def outward_sum(a, share, b, p):
    """Of each number: a's and share times b's, outward."""
    return Triple(
        outward(plus(a.x, times(share, b.x)), p),
        outward(plus(a.y, times(share, b.y)), p),
        outward(plus(a.z, times(share, b.z)), p),
    )


def stretched(a, share):
    return Triple(times(share, a.x), times(share, a.y), times(share, a.z))


def outward_each(a, p):
    return Triple(outward(a.x, p), outward(a.y, p), outward(a.z, p))


def conic_square(a, shape):
    """x x + y y + (1 + k) z z."""
    return sum_of_three(square(a.x), square(a.y), times(plus(whole(1), shape.conic), square(a.z)))


def what_stands_across(shape, point, p):
    """A of the point."""
    flatter = negative(shape.curve)
    deeper = negative(times(shape.curve, plus(whole(1), shape.conic)))
    return outward_each(
        Triple(times(flatter, point.x), times(flatter, point.y), plus(whole(1), times(deeper, point.z))), p)


def size_across(across, p):
    """V."""
    return outward(sum_of_three(square(across.x), square(across.y), square(across.z)), p)


def go_on_above_zero(a, ending):
    """Raises Lost unless a is above 0: with the ending if it's below 0, else undecided."""
    if a.high < 0:
        raise Lost(ending)
    if a.low <= 0:
        raise Lost(LEFT_UNDECIDED)


def how_far(point, way, shape, sign, p):
    """T: how far along the way the shell is met."""
    c = shape.curve
    off = outward(minus(times(whole(2), point.z), times(c, conic_square(point, shape))), p)  # S
    slant = inner_product(what_stands_across(shape, point, p), way, p)  # G
    spread = outward(conic_square(way, shape), p)  # Q
    inner = outward(plus(square(slant), times(times(c, off), spread)), p)  # R
    go_on_above_zero(inner, MISSES)
    if c.low == 0:
        go_on_above_zero(signed(slant, sign), MISSES)
    other = signed(root(inner, p), sign)  # W
    both = outward(plus(slant, other), p)  # H
    if not has_zero(both):
        return outward(over(negative(off), both), p)
    if c.low == 0 or has_zero(spread):
        raise Lost(LEFT_UNDECIDED)
    return outward(over(minus(slant, other), times(c, spread)), p)


def met_point(light, part, p):
    """The point, by the element's vertex, where its shell is met."""
    gap = signed(part.gap, light.sign)
    near = Triple(light.point.x, light.point.y, outward(plus(light.point.z, negative(gap)), p))
    return outward_sum(near, how_far(near, light.way, part.shape, light.sign, p), light.way, p)


def pass_limit(point, limit, p):
    if limit is None:
        return
    most = square(limit)
    away = outward(plus(square(point.x), square(point.y)), p)  # U
    if is_above(away.low, away.size, most):
        raise Lost(BLOCKED)
    if is_above(away.high, away.size, most):
        raise Lost(LEFT_UNDECIDED)


def mirrored(way, across, size, p):
    share = outward(over(times(whole(-2), inner_product(across, way, p)), size), p)
    return outward_sum(way, share, across, p)


def bent(light, across, size, index, p):
    """The way behind a surface into a medium of that index."""
    before = square(light.index)
    along = inner_product(across, light.way, p)  # M
    inner = outward(plus(times(before, square(along)), times(minus(square(index), before), size)), p)  # B
    go_on_above_zero(inner, THROWN_BACK)
    turn = minus(signed(root(inner, p), light.sign), times(light.index, along))
    share = outward(over(turn, size), p)  # j
    way = outward_sum(stretched(light.way, light.index), share, across, p)  # F
    return outward_each(stretched(way, over(whole(1), index)), p)


def start_light(start, index, p):
    """start: x, y and the slopes u, v."""
    u = start[2]
    v = start[3]
    w = root(outward(sum_of_three(whole(1), square(u), square(v)), p), p)
    z = outward(over(whole(1), w), p)
    way = Triple(outward(times(u, z), p), outward(times(v, z), p), z)
    return Light(Triple(start[0], start[1], whole(0)), way, index, 1)


def behind_part(light, part, line, p):
    """The light behind an element; Lost if it doesn't get there."""
    point = met_point(light, part, p)
    across = what_stands_across(part.shape, point, p)
    if across.z.high <= 0:
        raise Lost(MISSES)
    if across.z.low <= 0:
        raise Lost(LEFT_UNDECIDED)
    pass_limit(point, part.limit, p)
    if part.kind == "stop":
        return Light(point, light.way, light.index, light.sign)
    size = size_across(across, p)
    if size.low <= 0:
        raise Lost(LEFT_UNDECIDED)
    if part.kind == "mirror":
        return Light(point, mirrored(light.way, across, size, p), light.index, -light.sign)
    index = part.glass[line]
    return Light(point, bent(light, across, size, index, p), index, light.sign)


def plane_point(light, far, p):
    """The point in the plane that is far from the last vertex, toward greater z whatever mirrors there are."""
    if has_zero(light.way.z):
        raise Lost(LEFT_UNDECIDED)
    share = outward(over(minus(far, light.point.z), light.way.z), p)  # T
    return outward_sum(light.point, share, light.way, p)
