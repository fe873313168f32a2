"""A tree told as numbers, and written as text."""

from anytree.codepoints import LINE_FEED, encoded, points_of
from anytree.names import RAW_WITHOUT_REFERENCES, VOID
from anytree.nodes import ELEMENT, TEXT, in_order

ESCAPES = {38: "&amp;", 60: "&lt;", 34: "&quot;", 13: "&#13;"}


def told_tree(html):
    """How many nodes there are, and they."""
    nodes = in_order(html)
    numbers = [len(nodes)]
    for node in nodes:
        numbers.extend([node.kind, node.depth])
        if node.kind == ELEMENT:
            add_tag(numbers, node.tag)
        else:
            add_counted(numbers, node.points)
    return numbers


def add_counted(numbers, points):
    numbers.append(len(points))
    numbers.extend(points)


def add_tag(numbers, tag):
    add_counted(numbers, tag.name)
    numbers.append(len(tag.attributes))
    for name in tag.attributes:
        add_counted(numbers, name)
        add_counted(numbers, tag.attributes[name])


def written_tree(html):
    """The bytes of a tree written as text."""
    sent = []
    around = []
    for node in in_order(html):
        while around and around[-1].depth >= node.depth:
            sent.extend(written_end(around.pop()))
        if node.kind == ELEMENT:
            sent.extend(written_start(node))
            around.append(node)
        elif node.kind == TEXT:
            sent.extend(written_text(node, around[-1]))
        else:
            sent.extend(encoded(points_of("<!--") + node.points + points_of("-->")))
    while around:
        sent.extend(written_end(around.pop()))
    return sent


def escaped(points):
    safe = []
    for point in points:
        if point in ESCAPES:
            safe.extend(points_of(ESCAPES[point]))
        else:
            safe.append(point)
    return safe


def written_tag(tag):
    """A start tag's bytes; kept with the tag, for the many that opened again may share one."""
    if tag.written is None:
        points = points_of("<") + tag.name
        for name in tag.attributes:
            points.extend(points_of(" ") + list(name) + points_of("=\""))
            points.extend(escaped(tag.attributes[name]) + points_of("\""))
        tag.written = encoded(points + points_of(">"))
    return tag.written


def written_start(element):
    """The start tag, and the line feed that reading will take for nothing."""
    if element.word in ("pre", "textarea") and element.inside:
        first = element.inside[0]
        if first.kind == TEXT and first.points[0] == LINE_FEED:
            return written_tag(element.tag) + [LINE_FEED]
    return written_tag(element.tag)


def written_text(leaf, parent):
    if parent.word in RAW_WITHOUT_REFERENCES:
        return encoded(leaf.points)
    return encoded(escaped(leaf.points))


def written_end(element):
    if element.word in VOID:
        return []
    return encoded(points_of("</") + element.tag.name + points_of(">"))
