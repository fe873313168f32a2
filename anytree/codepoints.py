"""Bytes read as code points, code points written as bytes, and the sorts of code points."""

REPLACEMENT = 65533
LAST_POINT = 1114111
BLANKS = (9, 10, 12, 32)
LINE_FEED = 10
RETURN = 13

LETTERS = "abcdefghijklmnopqrstuvwxyz"
DIGITS = "0123456789"

# By how many bytes a sequence has: what its first byte holds beside the point's own bits,
# and the least point that needs so many.
LEAD_MARKS = (0, 0, 192, 224, 240)
LEAST_POINTS = (0, 0, 128, 2048, 65536)


def is_point(number):
    """Whether a number is a code point: the surrogates are none."""
    return 0 <= number <= LAST_POINT and not 55296 <= number <= 57343


def is_letter(point):
    return 65 <= point <= 90 or 97 <= point <= 122


def small(points):
    return [point + 32 if 65 <= point <= 90 else point for point in points]


def points_of(text):
    return [ord(sign) for sign in text]


def word_of(points):
    """A text that stands for these points and no others.

    It reads as they do if they are small letters and digits alone; otherwise it has commas, which no such text has.
    """
    signs = []
    for point in points:
        if 97 <= point <= 122:
            signs.append(LETTERS[point - 97])
        elif 48 <= point <= 57:
            signs.append(DIGITS[point - 48])
        else:
            return "," + ",".join([str(each) for each in points])
    return "".join(signs)


def sequence_length(lead):
    """How many bytes a sequence with this first byte has; 0 if none begins so."""
    if lead < 128:
        return 1
    if 192 <= lead < 224:
        return 2
    if 224 <= lead < 240:
        return 3
    if 240 <= lead < 248:
        return 4
    return 0


def sequence_point(sequence, length):
    """The code point that a sequence of this length tells; -1 if it isn't a right one."""
    if length == 0 or len(sequence) < length:
        return -1
    point = sequence[0] - LEAD_MARKS[length]
    for byte in sequence[1:]:
        if byte // 64 != 2:
            return -1
        point = point * 64 + byte % 64
    if point < LEAST_POINTS[length] or not is_point(point):
        return -1
    return point


def from_utf8(came):
    """The code points of bytes; a byte where no right sequence begins is the replacement."""
    points = []
    place = 0
    while place < len(came):
        length = sequence_length(came[place])
        point = sequence_point(came[place:place + length], length)
        if point < 0:
            points.append(REPLACEMENT)
            place += 1
        else:
            points.append(point)
            place += length
    return points


def with_plain_lines(points):
    """The points with every line's end as a line feed, and without 0."""
    plain = []
    before = -1
    for point in points:
        if point == RETURN:
            plain.append(LINE_FEED)
        elif point == 0:
            plain.append(REPLACEMENT)
        elif point != LINE_FEED or before != RETURN:
            plain.append(point)
        before = point
    return plain


def decoded(came):
    """The text that bytes are."""
    return with_plain_lines(from_utf8(came))


def encoded(points):
    """The points as UTF-8."""
    sent = []
    for point in points:
        if point < 128:
            sent.append(point)
        elif point < 2048:
            sent.extend([192 + point // 64, 128 + point % 64])
        elif point < 65536:
            sent.extend([224 + point // 4096, 128 + point // 64 % 64, 128 + point % 64])
        else:
            sent.extend([240 + point // 262144, 128 + point // 4096 % 64, 128 + point // 64 % 64, 128 + point % 64])
    return sent
