"""A tree that grows: what's open, what's remembered, and how nodes are put."""

from anytree.names import RAW, STYLED, VOID, WALLS
from anytree.nodes import REMARK, TEXT, Element, Leaf, plain_tag
from anytree.tags import MOST_ATTRIBUTES

MOST_DEPTH = 199
MOST_REMEMBERED = 8


class Tree:
    def __init__(self):
        self.html = Element(plain_tag("html"), 1)
        self.head = Element(plain_tag("head"), 2)
        self.body = Element(plain_tag("body"), 2)
        self.html.inside = [self.head, self.body]
        self.opened = [self.html, self.body]
        self.begun = False
        self.remembered = []

    def current(self):
        return self.opened[-1]

    def nearest(self, words):
        """The place among what's open of the last one with one of these names, or -1."""
        place = len(self.opened) - 1
        while place >= 0 and self.opened[place].word not in words:
            place -= 1
        return place

    def within_walls(self, word):
        """The place of the last open one of that name with no wall behind it, or -1."""
        place = len(self.opened) - 1
        while self.opened[place].word != word:
            if self.opened[place].word in WALLS:
                return -1
            place -= 1
        return place

    def close(self, place):
        """Closes the open one at a place and all behind it; with -1, none."""
        if place < 0:
            return
        closed = self.opened[place:]
        self.opened = self.opened[:place]
        styled = [element.tag for element in closed[1:] if element.word in STYLED]
        self.remembered = (self.remembered + styled)[-MOST_REMEMBERED:]
        if any([element.word in WALLS for element in closed]):
            self.remembered = []

    def close_current(self, words):
        """Closes the current one, if it has one of these names."""
        if self.current().word in words:
            self.close(len(self.opened) - 1)

    def close_within_table(self, kept):
        """Closes all that was opened behind the table, or behind the last open one of the kept names in it."""
        self.close(self.nearest(("table",) + kept) + 1)

    def open_again(self):
        tags = self.remembered
        self.remembered = []
        for tag in tags:
            self.put(tag)

    def forget_last(self, word):
        """The last remembered one of that name is remembered no longer."""
        place = len(self.remembered) - 1
        while place >= 0 and self.remembered[place].word != word:
            place -= 1
        if place >= 0:
            self.remembered = self.remembered[:place] + self.remembered[place + 1:]

    def forget_all(self, word):
        self.remembered = [tag for tag in self.remembered if tag.word != word]

    def put_in(self, parent, tag):
        """Puts an element as the last in its parent, a raw one with its text."""
        element = Element(tag, parent.depth + 1)
        parent.inside.append(element)
        if tag.text:
            element.inside.append(Leaf(TEXT, element.depth + 1, tag.text))
        return element

    def put(self, tag):
        """Puts an element in the current one, unless it's too deep there; whether it's then open."""
        if self.current().depth >= MOST_DEPTH:
            return False
        element = self.put_in(self.current(), tag)
        if tag.short or tag.word in VOID or tag.word in RAW:
            return False
        self.opened.append(element)
        if tag.word in WALLS:
            self.remembered = []
        return True

    def put_implying(self, implied, tag):
        """Puts an element in what's implied for it, unless it's too deep there; whether it's then open."""
        if self.current().depth + len(implied) >= MOST_DEPTH:
            return False
        for word in implied:
            self.put(plain_tag(word))
        return self.put(tag)

    def put_remark(self, parent, points):
        parent.inside.append(Leaf(REMARK, parent.depth + 1, points))

    def put_text(self, point):
        """Puts a code point behind the text that's last in the current one, or as such a text."""
        parent = self.current()
        if parent.inside and parent.inside[-1].kind == TEXT:
            parent.inside[-1].points.append(point)
        else:
            parent.inside.append(Leaf(TEXT, parent.depth + 1, [point]))

    def add_attributes(self, element, tag):
        """Gives an element those attributes of a tag that it doesn't have yet."""
        had = element.tag.attributes
        for name in list(tag.attributes):
            if name not in had and len(had) < MOST_ATTRIBUTES:
                had[name] = tag.attributes[name]
