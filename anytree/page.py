"""A page that comes in pieces, and the calls on it."""

from anytree.codepoints import decoded
from anytree.reader import read_text
from anytree.telling import told_tree, written_tree

BEGIN = 0
FEED = 1
TREE = 2

MOST_BYTES = 65536


class Page:
    """The bytes that have come, and the tree that they are, once it's asked for."""

    def __init__(self):
        self.came = []
        self.html = None

    def begin(self):
        self.came = []
        self.html = None
        return [0]

    def feed(self, more):
        if len(self.came) + len(more) > MOST_BYTES:
            return [-1]
        self.came.extend(more)
        self.html = None
        return [0]

    def root(self):
        if self.html is None:
            self.html = read_text(decoded(self.came))
        return self.html

    def tell(self):
        return told_tree(self.root())

    def write(self):
        sent = written_tree(self.root())
        return [len(sent)] + sent


def answer_at(page, calls, place):
    """What the call at a place is answered."""
    if calls[place] == BEGIN:
        return page.begin()
    if calls[place] == FEED:
        return page.feed(calls[place + 2:place + 2 + calls[place + 1]])
    if calls[place] == TREE:
        return page.tell()
    return page.write()


def answers(calls):
    """For each call how many numbers are answered, and these."""
    page = Page()
    given = []
    place = 0
    while place < len(calls):
        answer = answer_at(page, calls, place)
        given.append(len(answer))
        given.extend(answer)
        if calls[place] == FEED:
            place += 2 + calls[place + 1]
        else:
            place += 1
    return given
