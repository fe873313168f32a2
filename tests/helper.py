"""How the tests ask the program, and how they show its answers."""

from anytree.page import answers


def bytes_of(source):
    return list(source.encode("utf-8") if isinstance(source, str) else source)


def feed(source):
    came = bytes_of(source)
    return [1, len(came)] + came


def each(calls):
    """The answers to calls, one list for each call."""
    given = answers(calls)
    parts = []
    place = 0
    while place < len(given):
        parts.append(given[place + 1:place + 1 + given[place]])
        place += 1 + given[place]
    return parts


def tree_numbers(source):
    return each(feed(source) + [2])[1]


def written(source):
    answer = each(feed(source) + [3])[1]
    if answer[0] != len(answer) - 1:
        raise AssertionError("the count of bytes is wrong")
    return bytes(answer[1:])


class Numbers:
    """Numbers that are taken from the front."""

    def __init__(self, numbers):
        self.numbers = numbers
        self.place = 0

    def one(self):
        self.place += 1
        return self.numbers[self.place - 1]

    def text(self):
        length = self.one()
        self.place += length
        return "".join(map(chr, self.numbers[self.place - length:self.place]))


def nodes(numbers):
    """The nodes that a tree's answer tells: (kind, depth, name or points, attributes)."""
    rest = Numbers(numbers)
    found = []
    for _ in range(rest.one()):
        kind = rest.one()
        depth = rest.one()
        text = rest.text()
        attributes = []
        if kind == 1:
            attributes = [(rest.text(), rest.text()) for _ in range(rest.one())]
        found.append((kind, depth, text, attributes))
    if rest.place != len(numbers):
        raise AssertionError("the answer is longer than its nodes")
    return found


class Branch:
    def __init__(self, label, depth):
        self.label = label
        self.depth = depth
        self.inside = []

    def show(self):
        inner = " ".join(each_one.show() for each_one in self.inside)
        return f"{self.label}({inner})" if inner else self.label


def branches(numbers):
    """html as a Branch; a node's parent is the last element ahead of it that's one less deep."""
    last = {0: Branch("", 0)}
    for kind, depth, text, attributes in nodes(numbers):
        label = text if kind == 1 else ascii(text) if kind == 2 else "#" + ascii(text)
        if attributes:
            label += "{" + " ".join(name + "=" + ascii(value) for name, value in attributes) + "}"
        branch = Branch(label, depth)
        last[depth - 1].inside.append(branch)
        if kind == 1:
            last[depth] = branch
    return last[0].inside[0]


def outline(source):
    """The whole tree, as in html(head body(p{class='x'}('text') #'remark'))."""
    return branches(tree_numbers(source)).show()


def in_head(source):
    return " ".join(branch.show() for branch in branches(tree_numbers(source)).inside[0].inside)


def in_body(source):
    return " ".join(branch.show() for branch in branches(tree_numbers(source)).inside[1].inside)


def depth_of(source, name):
    """How deep the last element of a name is; 0 if there's none."""
    return max([0] + [node[1] for node in nodes(tree_numbers(source)) if node[0] == 1 and node[2] == name])
