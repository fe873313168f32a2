"""References: code points that text and values tell by a number or a name."""

from anytree.codepoints import REPLACEMENT, is_point, word_of

AMPERSAND = 38
SEMICOLON = 59
NUMBER_SIGN = 35
HEXADECIMAL_SIGNS = (88, 120)
# The most that may stand between & and ; : # and 7 digits, or #x and 6. So this bounds the digits, too.
LONGEST = 8

NAMED = {
    "amp": 38, "lt": 60, "gt": 62, "quot": 34, "apos": 39, "nbsp": 160, "copy": 169, "reg": 174, "deg": 176,
    "para": 182, "middot": 183, "laquo": 171, "raquo": 187, "times": 215, "divide": 247, "ndash": 8211,
    "mdash": 8212, "lsquo": 8216, "rsquo": 8217, "ldquo": 8220, "rdquo": 8221, "bull": 8226, "hellip": 8230,
    "euro": 8364, "trade": 8482, "larr": 8592, "uarr": 8593, "rarr": 8594, "darr": 8595, "minus": 8722,
}


def digit_of(point):
    """What a hexadecimal digit counts; 16 if it's none."""
    if 48 <= point <= 57:
        return point - 48
    if 65 <= point <= 70:
        return point - 55
    if 97 <= point <= 102:
        return point - 87
    return 16


def number_of(digits, base):
    """The number that digits tell in a base; -1 if there are none, or one of them is no digit there."""
    if not digits:
        return -1
    number = 0
    for point in digits:
        digit = digit_of(point)
        if digit >= base:
            return -1
        number = number * base + digit
    return number


def numbered_point(points):
    """The code point told by what stands between &# and ; : -1 if that's no reference."""
    if points and points[0] in HEXADECIMAL_SIGNS:
        number = number_of(points[1:], 16)
    else:
        number = number_of(points, 10)
    if number >= 0 and (number == 0 or not is_point(number)):
        return REPLACEMENT
    return number


def told_at(points, place):
    """The code point that text tells at a place, and the place behind what tells it."""
    itself = (points[place], place + 1)
    if points[place] != AMPERSAND:
        return itself
    ahead = points[place + 1:place + 2 + LONGEST]
    if SEMICOLON not in ahead:
        return itself
    between = ahead[:ahead.index(SEMICOLON)]
    if between[:1] == [NUMBER_SIGN]:
        point = numbered_point(between[1:])
    else:
        point = NAMED.get(word_of(between), -1)
    if point < 0:
        return itself
    return (point, place + 2 + len(between))


def told(points):
    """All code points that text tells, its references read."""
    result = []
    place = 0
    while place < len(points):
        found = told_at(points, place)
        result.append(found[0])
        place = found[1]
    return result
