"""Reading a text from the front, piece by piece, into a tree."""

from anytree.codepoints import LINE_FEED, is_letter, points_of, small
from anytree.names import RAW, RAW_WITHOUT_REFERENCES
from anytree.references import told, told_at
from anytree.rules import take_end, take_remark, take_start, take_text
from anytree.tags import GREATER, NAME_ENDS, SLASH, place_of_any, read_tag
from anytree.tree import Tree

LESS = 60
EXCLAMATION = 33
QUESTION = 63


def read_text(points):
    """The html of the tree that a text is."""
    tree = Tree()
    place = 0
    while place < len(points):
        place = read_piece(tree, points, place)
    return tree.html


def point_at(points, place):
    return points[place] if place < len(points) else -1


def read_piece(tree, points, place):
    """Takes what stands at a place; the place behind it."""
    if points[place] == LESS:
        second = point_at(points, place + 1)
        if is_letter(second):
            return read_start(tree, points, place + 1)
        if second == SLASH and is_letter(point_at(points, place + 2)):
            return read_end(tree, points, place + 2)
        if points[place:place + 4] == points_of("<!--"):
            return read_remark(tree, points, place + 4)
        if stands_nothing(points, place):
            return behind_nothing(points, place)
    found = told_at(points, place)
    take_text(tree, found[0])
    return found[1]


def stands_nothing(points, place):
    """Whether <! or <? or </ stands here and begins neither a remark nor an end tag."""
    if point_at(points, place) != LESS or points[place:place + 4] == points_of("<!--"):
        return False
    second = point_at(points, place + 1)
    if second == SLASH:
        return not is_letter(point_at(points, place + 2))
    return second in (EXCLAMATION, QUESTION)


def behind_nothing(points, place):
    return place_of_any(points, place, (GREATER,)) + 1


def read_remark(tree, points, place):
    close = points_of("-->")
    end = place
    while end < len(points) and points[end:end + 3] != close:
        end += 1
    take_remark(tree, points[place:end])
    return end + 3


def read_end(tree, points, place):
    found = read_tag(points, place)
    if found[0] is not None:
        take_end(tree, found[0])
    return found[1]


def read_start(tree, points, place):
    found = read_tag(points, place)
    tag = found[0]
    behind = found[1]
    if tag is None:
        return behind
    if tag.word in RAW and not tag.short:
        end = raw_end(points, behind, tag.name)
        tag.text = raw_text(tag.word, points[behind:end])
        behind = read_tag(points, end + 2)[1]
    opened = take_start(tree, tag)
    if opened and tag.word == "pre":
        behind = behind_first_line_feed(points, behind)
    return behind


def raw_end(points, place, name):
    """Where the end tag of a raw element begins, or the end of all."""
    while place < len(points):
        behind = place + 2 + len(name)
        if points[place:place + 2] == [LESS, SLASH] and small(points[place + 2:behind]) == name:
            if behind == len(points) or points[behind] in NAME_ENDS:
                return place
        place += 1
    return place


def raw_text(word, points):
    if word in RAW_WITHOUT_REFERENCES:
        return points
    text = told(points)
    if word == "textarea" and text[:1] == [LINE_FEED]:
        return text[1:]
    return text


def behind_first_line_feed(points, place):
    """The place behind a line feed that's the first from here on, if one is; what's nothing is passed over."""
    while stands_nothing(points, place):
        place = behind_nothing(points, place)
    if place < len(points):
        found = told_at(points, place)
        if found[0] == LINE_FEED:
            return found[1]
    return place
