"""The calls."""

from enclosedrays.numerals import exact_text, handed_over
from enclosedrays.rays import THROUGH, behind_part, plane_point, start_light
from enclosedrays.refusals import Lost, NotTaken, TextFault, TooGreat
from enclosedrays.system import read_system

LAST_LINE = 2
FINEST = 256
LONGEST_TEXT = 65536


def ends_told(a):
    return [exact_text(a.low, a.size), exact_text(a.high, a.size)]


def triple_told(a):
    return ends_told(a.x) + ends_told(a.y) + ends_told(a.z)


def bytes_told(texts):
    return [ord(sign) for sign in " ".join(texts)]


def numbers_taken(line, p, t, numbers):
    """The numbers handed over, once all arguments are seen to be such as are taken."""
    if line > LAST_LINE or p > FINEST or len(t) > LONGEST_TEXT:
        raise NotTaken()
    return [handed_over(text) for text in numbers]


def follow_and_tell(system, line, p, start):
    light = start_light(start, system.medium[line], p)
    passed = 0
    ending = THROUGH
    texts = []
    for part in system.parts:
        try:
            light = behind_part(light, part, line, p)
        except Lost as lost:
            ending = lost.ending
            break
        passed += 1
        # Told at once: numbers too great to be told end the call here, before
        # they are squared at every further element.
        texts.extend(triple_told(light.point) + triple_told(light.way))
    told = bytes_told(texts)
    return [len(told), passed, ending] + told


def light_behind_all(system, line, p, start):
    """The light behind the last element; Lost if it doesn't get there."""
    light = start_light(start, system.medium[line], p)
    # No number is too great here: none of these is told.
    for part in system.parts:
        light = behind_part(light, part, line, p)
    return light


def follow_to_plane(system, line, p, start, far):
    point = plane_point(light_behind_all(system, line, p, start), far, p)
    told = bytes_told(ends_told(point.x) + ends_told(point.y))
    return [len(told)] + told


def trace(line, p, t, x, y, u, v):
    """How the ray goes: the bytes' number, elements got through, how it ends, the bytes."""
    try:
        start = numbers_taken(line, p, t, [x, y, u, v])
        return follow_and_tell(read_system(t), line, p, start)
    except NotTaken:
        return [-1]
    except TextFault as fault:
        return [-3, fault.place, fault.kind]
    except TooGreat:
        return [-6]


def at(line, p, t, x, y, u, v, z):
    """Where the ray comes to the plane at z from the last vertex: the bytes' number, the bytes."""
    try:
        numbers = numbers_taken(line, p, t, [x, y, u, v, z])
        return follow_to_plane(read_system(t), line, p, numbers[:4], numbers[4])
    except NotTaken:
        return [-1]
    except TextFault as fault:
        return [-3, fault.place, fault.kind]
    except Lost:
        return [-5]
    except TooGreat:
        return [-6]
