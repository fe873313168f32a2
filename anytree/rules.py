"""What text, remarks, start tags and end tags do to a tree."""

from anytree.codepoints import BLANKS
from anytree.names import BLOCKS, CELLS, FRAMES, HEADINGS, HEADS, PARTS, ROW_GROUPS, STYLED, WALLS
from anytree.nodes import plain_tag

ITEM_LIMITS = ("li", "ul", "ol", "menu", "dir")
DEFINITION_LIMITS = ("dd", "dt", "dl")


def take_text(tree, point):
    """One code point of text."""
    if point in BLANKS:
        if tree.begun:
            tree.put_text(point)
        return
    tree.begun = True
    close_framing_table(tree)
    tree.open_again()
    tree.put_text(point)


def take_remark(tree, points):
    tree.put_remark(tree.current() if tree.begun else tree.head, points)


def take_start(tree, tag):
    """A start tag; whether the element that it tells is then open."""
    if tree.begun:
        return start_in_body(tree, tag)
    if tag.word == "html":
        tree.add_attributes(tree.html, tag)
    elif tag.word == "head":
        tree.add_attributes(tree.head, tag)
    elif tag.word in HEADS:
        tree.put_in(tree.head, tag)
    else:
        tree.begun = True
        return start_in_body(tree, tag)
    return False


def start_in_body(tree, tag):
    if tag.word == "html":
        tree.add_attributes(tree.html, tag)
        return False
    if tag.word == "body":
        tree.add_attributes(tree.body, tag)
        return False
    if tag.word == "head":
        return False
    if tag.word in PARTS:
        return start_part(tree, tag)
    if tag.word not in ("script", "style"):
        close_framing_table(tree)
    close_for(tree, tag.word)
    if tag.word == "form" and tree.nearest(("form",)) >= 0:
        return False
    if tag.word not in BLOCKS:
        tree.open_again()
    return tree.put(tag)


def close_framing_table(tree):
    """Closes the table that the current one is a frame of, if it's one."""
    if tree.current().word in FRAMES:
        tree.close(tree.nearest(("table",)))


def start_part(tree, tag):
    nearest = tree.nearest(CELLS + ("table",))
    if nearest >= 0 and tree.opened[nearest].word in CELLS:
        tree.close(nearest)
    if tree.current().word not in FRAMES:
        return False
    return tree.put_implying(make_room(tree, tag.word), tag)


def make_room(tree, word):
    """Closes what a part can't stand in; the names of what's implied for it."""
    current = tree.current().word
    if word == "col":
        if current == "colgroup":
            return []
        tree.close_within_table(())
        return ["colgroup"]
    if word == "tr":
        return make_row_room(tree)
    if word in ("td", "th"):
        if current == "tr":
            return []
        return make_row_room(tree) + ["tr"]
    tree.close_within_table(())
    return []


def make_row_room(tree):
    tree.close_within_table(ROW_GROUPS)
    if tree.current().word in ROW_GROUPS:
        return []
    return ["tbody"]


def close_for(tree, word):
    """Closes what an element of that name can't stand in."""
    if word in BLOCKS:
        tree.close(tree.within_walls("p"))
    if word in HEADINGS:
        tree.close_current(HEADINGS)
    elif word == "li":
        close_nearest_of(tree, ("li",), ITEM_LIMITS)
    elif word in ("dd", "dt"):
        close_nearest_of(tree, ("dd", "dt"), DEFINITION_LIMITS)
    elif word == "option":
        tree.close_current(("option",))
    elif word == "optgroup":
        tree.close_current(("option",))
        tree.close_current(("optgroup",))
    elif word == "button":
        tree.close(tree.nearest(("button",)))
    elif word == "a":
        tree.close(tree.within_walls("a"))
        tree.forget_all("a")


def close_nearest_of(tree, words, limits):
    """Closes the nearest open one of the limits and the walls, if it has one of these names."""
    place = tree.nearest(limits + WALLS)
    if tree.opened[place].word in words:
        tree.close(place)


def take_end(tree, tag):
    word = tag.word
    if not tree.begun or word in ("html", "head", "body"):
        return
    if word == "br":
        start_in_body(tree, plain_tag("br"))
    elif word == "table" or word in PARTS:
        place = tree.nearest((word, "table"))
        if place >= 0 and tree.opened[place].word == word:
            tree.close(place)
    else:
        end_other(tree, word)


def end_other(tree, word):
    place = tree.within_walls(word)
    if place >= 0:
        tree.close(place)
    elif word == "p":
        if start_in_body(tree, plain_tag("p")):
            tree.close_current(("p",))
    elif word in STYLED:
        tree.forget_last(word)
