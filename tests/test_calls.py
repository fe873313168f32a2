"""DOC.md, "The calls" and "The interface"."""

import unittest

from anytree.page import Page, answers
from tests.helper import branches, bytes_of, each, feed, nodes, tree_numbers

BEGIN = [0]
TREE = [2]
WRITE = [3]

EMPTY_TREE = [
    3,
    1, 1, 4, 104, 116, 109, 108, 0,
    1, 2, 4, 104, 101, 97, 100, 0,
    1, 2, 4, 98, 111, 100, 121, 0,
]
EMPTY_WRITTEN = list(b"<html><head></head><body></body></html>")


def told(numbers):
    return branches(numbers).show()


class Answers(unittest.TestCase):
    def test_begin(self):
        self.assertEqual(answers([0]), [1, 0])
        self.assertEqual(answers([0, 0]), [1, 0, 1, 0])

    def test_feed(self):
        self.assertEqual(answers([1, 0]), [1, 0])
        self.assertEqual(answers([1, 3, 0, 1, 2]), [1, 0])
        self.assertEqual(answers([1, 1, 2, 1, 2, 3, 3]), [1, 0, 1, 0])

    def test_tree_of_nothing(self):
        self.assertEqual(answers([2]), [len(EMPTY_TREE)] + EMPTY_TREE)

    def test_write_of_nothing(self):
        count = len(EMPTY_WRITTEN)
        self.assertEqual(answers([3]), [count + 1, count] + EMPTY_WRITTEN)

    def test_one_behind_another(self):
        count = len(EMPTY_WRITTEN)
        self.assertEqual(answers([2, 0, 1, 0, 3]),
                         [len(EMPTY_TREE)] + EMPTY_TREE + [1, 0, 1, 0, count + 1, count] + EMPTY_WRITTEN)

    def test_bytes_that_look_like_calls(self):
        self.assertEqual(each([1, 4, 0, 1, 2, 3, 2])[1][-7:], [2, 3, 4, 65533, 1, 2, 3])

    def test_it_answers_with_a_list_of_ints(self):
        given = answers(feed("<p a=1>x<!--y-->") + TREE + WRITE)
        self.assertIs(given.__class__, list)
        for number in given:
            self.assertIs(number.__class__, int)


class Nodes(unittest.TestCase):
    def test_the_numbers_of_each_node(self):
        numbers = tree_numbers("<html l=e><!--ab--><p C=\"d&amp;\" e>f&#8364;<br>")
        self.assertEqual(numbers, [
            7,
            1, 1, 4, 104, 116, 109, 108, 1, 1, 108, 1, 101,
            1, 2, 4, 104, 101, 97, 100, 0,
            3, 3, 2, 97, 98,
            1, 2, 4, 98, 111, 100, 121, 0,
            1, 3, 1, 112, 2, 1, 99, 2, 100, 38, 1, 101, 0,
            2, 4, 2, 102, 8364,
            1, 4, 2, 98, 114, 0,
        ])

    def test_an_empty_remark(self):
        self.assertEqual(tree_numbers("x<!---->")[-7:], [2, 3, 1, 120, 3, 3, 0])

    def test_the_trees_order(self):
        told_nodes = nodes(tree_numbers("<div>a<p>b<i>c</i></p>d</div>e<!--f-->"))
        self.assertEqual([(node[1], node[2]) for node in told_nodes], [
            (1, "html"), (2, "head"), (2, "body"), (3, "div"), (4, "a"), (4, "p"), (5, "b"), (5, "i"), (6, "c"),
            (4, "d"), (3, "e"), (3, "f"),
        ])


class Pieces(unittest.TestCase):
    SOURCE = "<!DOCTYPE html><title>\u20ac&amp;</title>\r\n<p a='1'>x<b>y\r\n<p>z</b><table><td>1<td/>2<script></p></script>"

    def test_a_tree_at_any_time(self):
        came = bytes_of(self.SOURCE)
        for length in range(len(came) + 1):
            parts = each(feed(came[:length]) + TREE + WRITE + feed(came[length:]) + TREE + WRITE)
            self.assertEqual(parts[1:3], each(feed(came[:length]) + TREE + WRITE)[1:])
            self.assertEqual(parts[4:6], each(feed(came) + TREE + WRITE)[1:])

    def test_byte_by_byte(self):
        came = bytes_of("<p>\u20ac<b>\r\n&lt;</p>x")
        calls = []
        for byte in came:
            calls.extend(feed([byte]))
        self.assertEqual(each(calls + TREE)[-1], tree_numbers(came))

    def test_as_if_it_ended_there(self):
        parts = each(feed("<p>x<b") + TREE + feed(">y&am") + TREE + feed("p;<!--z") + TREE + feed("-->") + TREE)
        self.assertEqual([told(part) for part in parts[1::2]], [
            "html(head body(p('x')))",
            "html(head body(p('x' b('y&am'))))",
            "html(head body(p('x' b('y&' #'z'))))",
            "html(head body(p('x' b('y&' #'z'))))",
        ])

    def test_asking_changes_nothing(self):
        calls = feed("<p>x<b>") + TREE + WRITE + TREE + WRITE + feed("y") + TREE
        parts = each(calls)
        self.assertEqual(parts[1], parts[3])
        self.assertEqual(parts[2], parts[4])
        self.assertEqual(parts[6], tree_numbers("<p>x<b>y"))

    def test_an_empty_feed(self):
        parts = each(feed("<p>x") + feed("") + TREE)
        self.assertEqual(parts[1], [0])
        self.assertEqual(parts[2], tree_numbers("<p>x"))

    def test_begin_in_the_midst(self):
        parts = each(feed("<html a=1><p>x<b") + TREE + BEGIN + TREE + feed(">y") + TREE)
        self.assertEqual(parts[2], [0])
        self.assertEqual(parts[3], EMPTY_TREE)
        self.assertEqual(told(parts[5]), "html(head body('>y'))")

    def test_begin_and_write(self):
        parts = each(feed("x") + WRITE + BEGIN + WRITE)
        self.assertEqual(bytes(parts[1][1:]), b"<html><head></head><body>x</body></html>")
        self.assertEqual(parts[3][1:], EMPTY_WRITTEN)

    def test_begin_between_13_and_10(self):
        parts = each(feed("x\r") + BEGIN + feed("<pre>") + feed("\ny") + TREE)
        self.assertEqual(told(parts[4]), "html(head body(pre('y')))")


class Limit(unittest.TestCase):
    def test_as_far_as_a_list_of_calls_can_reach_it(self):
        for count in (1, 30):
            length = (2500 - 2 * count) // count
            self.assertEqual(each(feed("x" * length) * count), [[0]] * count)
        self.assertEqual(each(feed("x" * 2498)), [[0]])

    def test_65536_and_one_more(self):
        page = Page()
        self.assertEqual(page.feed([120] * 65535), [0])
        self.assertEqual(page.feed([121, 121]), [-1])
        self.assertEqual(page.feed([122]), [0])
        self.assertEqual(page.feed([121]), [-1])
        self.assertEqual(page.feed([]), [0])
        text = nodes(page.tell())[3][2]
        self.assertEqual(text, "x" * 65535 + "z")
        self.assertEqual(page.begin(), [0])
        self.assertEqual(page.feed([120] * 65537), [-1])
        self.assertEqual(page.feed([120] * 65536), [0])

    def test_a_longer_list_of_calls_is_answered_so_too(self):
        parts = each(feed("x" * 65536) + feed("y") + feed("") + BEGIN + feed("z") + TREE)
        self.assertEqual(parts[:5], [[0], [-1], [0], [0], [0]])
        self.assertEqual(told(parts[5]), "html(head body('z'))")


class NothingIsKept(unittest.TestCase):
    CALLS = feed("<html a=1><p><b>x</p>y<table><td>") + TREE + WRITE + BEGIN + feed("z") + TREE

    def test_what_is_handed_in_stays_as_it_was(self):
        calls = list(self.CALLS)
        answers(calls)
        self.assertEqual(calls, self.CALLS)

    def test_calling_twice_gives_the_same(self):
        first = answers(list(self.CALLS))
        answers(feed("<html q=1>other") + TREE)
        self.assertEqual(answers(list(self.CALLS)), first)

    def test_a_changed_answer_changes_no_other(self):
        first = answers(list(self.CALLS))
        kept = list(first)
        first.clear()
        self.assertEqual(answers(list(self.CALLS)), kept)

    def test_each_time_is_as_if_for_the_first_time(self):
        answers(feed("<p>x"))
        self.assertEqual(each(TREE), [EMPTY_TREE])


if __name__ == "__main__":
    unittest.main()
