"""DOC.md, "Written", and that a tree that's written and read again is the same tree."""

import random
import unittest

from tests.helper import in_body, tree_numbers, written

PIECES = (
    "<p>", "</p>", "<b>", "</b>", "<i a=1>", "</i>", "<a h='&quot;'>", "</a>", "<div>", "</div>", "<table>", "</table>",
    "<tr>", "</tr>", "<td>", "</td>", "<th>", "<tbody>", "</tbody>", "<caption>", "</caption>", "<col>", "<colgroup>",
    "<thead>", "<ul>", "</ul>", "<li>", "<dl>", "<dd>", "<dt>", "<h1>", "</h1>", "<h2>", "<button>", "</button>",
    "<form>", "</form>", "<option>", "<optgroup>", "<br>", "</br>", "<hr>", "<div/>", "<b/>", "<p/>", "<td/>",
    "<pre>", "\n", "\r\n", "&#10;", "&#13;", "</pre>", "<textarea>", "</textarea>", "<textarea/>", "<title>", "</title>",
    "<script>", "</script>", "<style>", "</style>", "<meta>", "<html b=2>", "<head c=3>", "<body d=4>", "</body>",
    "<!--", "-->", "-", "<!x>", "<?", ">", "</", "<", "&", "&lt;", "&amp;", "\"", "'", "=", "/", " ", "x", "y", "\u20ac",
    "<x-y =z \"q>", "<u>", "<s>", "<tt>", "</u>", "<font\tsize=1/>", "<em>", "\0", "&nbsp;", "<span>", "</span>",
)


def inside(source):
    """What's written between body's tags."""
    text = written(source).decode("utf-8")
    return text[len("<html><head></head><body>"):-len("</body></html>")]


class Written(unittest.TestCase):
    def test_elements(self):
        self.assertEqual(written("<html a=1><head b=2><meta><body c=3><p>x"),
                         b'<html a="1"><head b="2"><meta></head><body c="3"><p>x</p></body></html>')

    def test_attributes(self):
        self.assertEqual(inside("<i a b=1 C='2 3' d=\"'\">"), "<i a=\"\" b=\"1\" c=\"2 3\" d=\"'\"></i>")

    def test_void_ones_have_no_end_tag(self):
        for name in "area base br embed hr img input link meta source track wbr".split():
            self.assertEqual(inside("x<%s a>y" % name), "x<%s a=\"\">y" % name)
        self.assertEqual(inside("<table><col>"), "<table><colgroup><col></colgroup></table>")

    def test_short_ones_have_an_end_tag(self):
        self.assertEqual(inside("<div/>x<script/>"), "<div></div>x<script></script>")

    def test_remarks(self):
        self.assertEqual(inside("x<!-- & < \" -->"), "x<!-- & < \" -->")
        self.assertEqual(inside("x<!--y--"), "x<!--y---->")
        self.assertEqual(inside("x<!---->"), "x<!---->")

    def test_text(self):
        self.assertEqual(inside("a&amp;b&lt;c&gt;d&quot;e'f&#13;g\nh"), "a&amp;b&lt;c>d&quot;e'f&#13;g\nh")
        self.assertEqual(inside("a&b<c>\""), "a&amp;b<c>&quot;</c>")
        self.assertEqual(inside("a &foo; < b"), "a &amp;foo; &lt; b")

    def test_values(self):
        self.assertEqual(inside("<i a='&amp;&lt;&gt;\"&apos;&#13;\n\t'>"), "<i a=\"&amp;&lt;>&quot;'&#13;\n\t\"></i>")

    def test_script_and_style(self):
        for name in ("script", "style"):
            self.assertEqual(inside("x<%s>a&b<c>\"&lt;</%s>" % (name, name)), "x<%s>a&b<c>\"&lt;</%s>" % (name, name))

    def test_title_and_textarea(self):
        for name in ("title", "textarea"):
            self.assertEqual(inside("x<%s>a&b<c>\"&lt;</%s>" % (name, name)),
                             "x<%s>a&amp;b&lt;c>&quot;&lt;</%s>" % (name, name))

    def test_a_line_feed_that_is_first(self):
        self.assertEqual(inside("<pre>\n\nx"), "<pre>\n\nx</pre>")
        self.assertEqual(inside("<pre>\nx"), "<pre>x</pre>")
        self.assertEqual(inside("<pre a>\n\n"), "<pre a=\"\">\n\n</pre>")
        self.assertEqual(inside("<pre><i>\nx"), "<pre><i>\nx</i></pre>")
        self.assertEqual(inside("<pre><!--\n-->\n"), "<pre><!--\n-->\n</pre>")
        self.assertEqual(inside("<pre>"), "<pre></pre>")
        self.assertEqual(inside("<textarea>\n\nx</textarea>"), "<textarea>\n\nx</textarea>")
        self.assertEqual(inside("<textarea>\nx</textarea>"), "<textarea>x</textarea>")
        self.assertEqual(inside("<p>\nx"), "<p>\nx</p>")
        self.assertEqual(inside("x<title>\nx</title>"), "x<title>\nx</title>")

    def test_utf8(self):
        for point in (127, 128, 2047, 2048, 4095, 4096, 61440, 65533, 65535, 65536, 262143, 262144, 786432, 1048575,
                      1048576, 1114111, 233, 8364, 128512, 703710):
            sign = chr(point)
            self.assertEqual(inside("<p%s a%s=%s>%s<!--%s-->" % ((sign,) * 5)),
                             "<p%s a%s=\"%s\">%s<!--%s--></p%s>" % ((sign,) * 6))
        self.assertEqual(written([120, 255])[25:29], b"x\xef\xbf\xbd")

    def test_what_is_opened_again(self):
        self.assertEqual(inside("<p><font a='&amp;\u20ac'>x<p>y"),
                         "<p><font a=\"&amp;\u20ac\">x</font></p><p><font a=\"&amp;\u20ac\">y</font></p>")

    def test_names_are_written_as_they_are(self):
        self.assertEqual(inside("<a&b\"c d&'=1 =e>"), "<a&b\"c d&'=\"1\" =e=\"\"></a&b\"c>")


class ReadAgain(unittest.TestCase):
    def check(self, source):
        first = written(source)
        self.assertEqual(tree_numbers(first), tree_numbers(source), source)
        self.assertEqual(written(first), first, source)

    def test_trees_of_all_sorts(self):
        for source in (
            "", "x", "<p><b>x<p>y", "<pre>\n\n\nx", "<textarea>\n\n&lt;/textarea>", "<!--a--", "x<!--a---", "<i =a \"b>",
            "<table>x<td><b>y<td>z<table><caption>", "<a><b>x<a>y<table><a>z", "<title>&lt;/title></title>",
            "<script></scrip</script>", "<div>" * 250 + "x", "<p>&#13;\r\n&nbsp;<i a='&#13;'>", "<b/><pre/>\n<script/>y",
            "<style><!--</style>-->", " <!-- a --> <meta> b", "</p></br>x</p></br>", "<h1><b><h2>x", "<option><i><option>",
        ):
            self.check(source)

    def test_trees_of_pieces_put_together_by_chance(self):
        chance = random.Random(20)
        for _ in range(1500):
            self.check("".join(chance.choice(PIECES) for _ in range(chance.randrange(1, 60))))

    def test_trees_of_any_bytes(self):
        chance = random.Random(21)
        marks = b"<>/!-=\"'& \n\rpabi;#x1"
        for _ in range(500):
            self.check(bytes(chance.choice(marks) if chance.random() < 0.8 else chance.randrange(256)
                             for _ in range(chance.randrange(1, 80))))

    def test_deep_trees_of_pieces(self):
        chance = random.Random(22)
        for _ in range(60):
            around = "".join(chance.choice(("<div>", "<span>", "<b>", "<table><td>")) for _ in range(210))
            self.check(around + "".join(chance.choice(PIECES) for _ in range(40)))

    def test_the_outline_of_one_of_them(self):
        source = "<ul><li>a<li><b>b<ul><li>c</b>d"
        self.assertEqual(in_body(written(source)), in_body(source))


if __name__ == "__main__":
    unittest.main()
