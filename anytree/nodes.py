"""The nodes of a tree, and the tags that elements are made by."""

from anytree.codepoints import points_of, word_of

ELEMENT = 1
TEXT = 2
REMARK = 3


class Tag:
    """A name (a list of code points) and attributes (a dict from tuples of code points to lists of them).

    A raw element's tag holds its text, too. Elements that are opened again share one tag.
    """

    def __init__(self, name, attributes, short):
        self.name = name
        self.word = word_of(name)
        self.attributes = attributes
        self.short = short
        self.text = []
        self.written = None


class Element:
    def __init__(self, tag, depth):
        self.kind = ELEMENT
        self.depth = depth
        self.tag = tag
        self.word = tag.word
        self.inside = []


class Leaf:
    """Text or a remark."""

    def __init__(self, kind, depth, points):
        self.kind = kind
        self.depth = depth
        self.points = points


def plain_tag(word):
    """A tag without attributes."""
    return Tag(points_of(word), {}, False)


def in_order(html):
    """All nodes from html on, each element ahead of what's in it."""
    found = []
    waiting = [html]
    while waiting:
        node = waiting.pop()
        found.append(node)
        if node.kind == ELEMENT:
            waiting.extend(node.inside[::-1])
    return found
