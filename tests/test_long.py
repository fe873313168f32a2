"""Long and deeply nested inputs are answered without failing, and in a short time."""

import time
import unittest

from anytree.page import answers
from tests.helper import feed

MOST = 2500
SECONDS = 10


def filled(piece, room):
    return (piece * (room // len(piece) + 1))[:room]


class Long(unittest.TestCase):
    def check(self, calls):
        self.assertLessEqual(len(calls), MOST)
        start = time.perf_counter()
        given = answers(calls)
        self.assertLess(time.perf_counter() - start, SECONDS)
        return given

    def test_one_piece_over_and_over(self):
        for piece in (
            "x", "<", "<b>", "<p>", "<a>", "<p><b>", "<p><b>x", "<table>", "<table><td>", "<td>", "<tr>", "<!--", "<!",
            "</", "</p>", "</b>", "&", "&#", "&amp;", "<i a=", "<i a='", "<i a='x'>", "<script>", "</script>", "<title></",
            "<button>", "<li>", "<ul><li>", "<h1><b>", "\r\n", "\u20ac", "\xff", "<form><p>", "<option>", "<i/", "--", "<a b ",
            "<p></b><i>", "<pre>\n", "<pre><!x></>\n", "<textarea>", "<br>", "<div>x</div>", "<x y z w q r t u>",
        ):
            room = MOST - 4
            came = list(filled(piece.encode("utf-8"), room))
            given = self.check([1, room] + came + [2, 3])
            self.assertEqual(given[:2], [1, 0])

    def test_40_calls(self):
        room = MOST - 40
        for piece in ("<p><b>x", "<table><td>", "x", "<i a=1 b=2>"):
            self.check([1, room - 1] + list(filled(piece.encode("utf-8"), room - 1)) + [2, 3] * 19 + [2])

    def test_40_calls_with_feeds_between(self):
        start = list(filled(b"<table><td><p><b>", 2300))
        calls = [1, len(start)] + start
        for _ in range(13):
            calls += [2, 3] + feed("<p>x")
        self.check(calls)

    def test_a_long_value_that_is_opened_again_and_again(self):
        start = "<p><b a='" + "&amp;\u20ac" * 100 + "'>"
        calls = feed(start + "<p>x" * 200)
        for _ in range(9):
            calls += [2, 3] + feed("<p>y")
        given = self.check(calls)
        self.assertLess(len(given), 10000000)

    def test_as_many_bytes_as_may_come(self):
        for piece in (b"<div>", b"<p><b>", b"<table><td>", b"x<i/>"):
            start = time.perf_counter()
            given = answers([1, 65536] + list(filled(piece, 65536)) + [2, 3])
            self.assertLess(time.perf_counter() - start, SECONDS)
            self.assertEqual(given[:2], [1, 0])


if __name__ == "__main__":
    unittest.main()
