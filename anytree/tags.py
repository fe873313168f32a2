"""Reading one tag: its name and its attributes."""

from anytree.codepoints import BLANKS, small
from anytree.nodes import Tag
from anytree.references import told

MOST_NAME_POINTS = 64
MOST_ATTRIBUTES = 64

SLASH = 47
EQUALS = 61
GREATER = 62
QUOTES = (34, 39)
BLANKS_AND_SLASH = (9, 10, 12, 32, 47)
NAME_ENDS = (9, 10, 12, 32, 47, 62)
ATTRIBUTE_NAME_ENDS = (9, 10, 12, 32, 47, 61, 62)
VALUE_ENDS = (9, 10, 12, 32, 62)


def place_of_any(points, place, wanted):
    """The first place from this one on where one of the wanted stands, or the end."""
    while place < len(points) and points[place] not in wanted:
        place += 1
    return place


def place_behind(points, place, passed):
    """The first place from this one on where none of the passed stands, or the end."""
    while place < len(points) and points[place] in passed:
        place += 1
    return place


def name_from(points):
    return small(points[:MOST_NAME_POINTS])


def read_value(points, place):
    """The value behind a =, and the place behind it."""
    place = place_behind(points, place, BLANKS)
    if place < len(points) and points[place] in QUOTES:
        end = place_of_any(points, place + 1, (points[place],))
        return (told(points[place + 1:end]), end + 1)
    end = place_of_any(points, place, VALUE_ENDS)
    return (told(points[place:end]), end)


def read_attribute(points, place, attributes):
    """Adds the attribute at a place, if it counts; the place behind it."""
    end = place_of_any(points, place + 1, ATTRIBUTE_NAME_ENDS)
    name = tuple(name_from(points[place:end]))
    value = []
    place = place_behind(points, end, BLANKS)
    if place < len(points) and points[place] == EQUALS:
        found = read_value(points, place + 1)
        value = found[0]
        place = found[1]
    if name not in attributes and len(attributes) < MOST_ATTRIBUTES:
        attributes[name] = value
    return place


def read_tag(points, place):
    """The tag whose name begins at a place, and the place behind it; None and the end if the end cuts it off."""
    end = place_of_any(points, place, NAME_ENDS)
    name = name_from(points[place:end])
    attributes = {}
    place = end
    while place < len(points):
        start = place
        place = place_behind(points, start, BLANKS_AND_SLASH)
        if place < len(points) and points[place] == GREATER:
            # Only a slash that was passed over just now is none of a value.
            short = place > start and points[place - 1] == SLASH
            return (Tag(name, attributes, short), place + 1)
        if place < len(points):
            place = read_attribute(points, place, attributes)
    return (None, len(points))
