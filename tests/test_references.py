"""DOC.md, "What's read": references."""

import unittest

from tests.helper import in_body, in_head

NAMED = {
    "amp": "&", "lt": "<", "gt": ">", "quot": "\"", "apos": "'", "nbsp": 160, "copy": 169, "reg": 174, "deg": 176,
    "para": 182, "middot": 183, "laquo": 171, "raquo": 187, "times": 215, "divide": 247, "ndash": 8211, "mdash": 8212,
    "lsquo": 8216, "rsquo": 8217, "ldquo": 8220, "rdquo": 8221, "bull": 8226, "hellip": 8230, "euro": 8364,
    "trade": 8482, "larr": 8592, "uarr": 8593, "rarr": 8594, "darr": 8595, "minus": 8722,
}


def sign(point):
    return point if isinstance(point, str) else chr(point)


class References(unittest.TestCase):
    def check(self, source, text):
        shown = ascii(text)
        self.assertEqual(in_body("<p>" + source), "p(" + shown + ")", source)
        self.assertEqual(in_body("<p a=\"" + source + "\">"), "p{a=" + shown + "}", source)
        self.assertEqual(in_body("<p a='" + source + "'>"), "p{a=" + shown + "}", source)
        self.assertEqual(in_body("<p a=" + source + ">"), "p{a=" + shown + "}", source)

    def test_every_name(self):
        self.assertEqual(len(NAMED), 30)
        for name in NAMED:
            self.check("&" + name + ";", sign(NAMED[name]))
            self.check("a&" + name + ";b", "a" + sign(NAMED[name]) + "b")

    def test_almost_a_name(self):
        for name in NAMED:
            self.check("&" + name, "&" + name)
            self.check("&" + name + "_;", "&" + name + "_;")
            self.check("&" + name.upper() + ";", "&" + name.upper() + ";")
            self.check("&" + name[:-1] + ";", "&" + name[:-1] + ";")
            self.check("&" + name + "x;", "&" + name + "x;")
            self.check("&#" + name + ";", "&#" + name + ";")

    def test_other_ampersands(self):
        for source in ("&", "&;", "&&", "&a", "&foo;", "&&;", "&#", "&#;", "&#x", "&#x;", "&#X;", "&x41;", "&41;"):
            self.check(source, source)

    def test_an_ampersand_ahead_of_a_reference(self):
        self.check("&&amp;", "&&")
        self.check("&am&amp;p;", "&am&p;")
        self.check("&#&lt;", "&#<")

    def test_what_a_reference_tells_is_not_read_again(self):
        self.check("&amp;lt;", "&lt;")
        self.check("&#38;amp;", "&amp;")
        self.assertEqual(in_body("<p>&lt;b>x&lt;/p>"), "p('<b>x</p>')")
        self.assertEqual(in_body("<p a='&apos;b&#39;' c=\"&quot;\">"), "p{a=\"'b'\" c='\"'}")
        self.assertEqual(in_body("<p a=b&#32;c&gt;d>"), "p{a='b c>d'}")

    def test_decimal(self):
        self.check("&#65;", "A")
        self.check("&#9;x", "\tx")
        self.check("&#0000065;", "A")
        self.check("&#1114111;", "\U0010ffff")
        self.check("&#13;", "\r")
        self.check("&#1;", "\x01")
        self.check("&#128;", "\x80")

    def test_decimal_almost_right(self):
        for source in ("&#00000065;", "&#65", "&#65a;", "&#6 5;", "&#-5;", "&#+5;", "&#a;", "&#12345678;", "& #65;", "&#1/;",
                       "&#1:;", "&#1A;"):
            if " " in source:
                self.assertEqual(in_body("<p>" + source), "p(" + ascii(source) + ")")
            else:
                self.check(source, source)

    def test_hexadecimal(self):
        self.check("&#x41;", "A")
        self.check("&#X41;", "A")
        self.check("&#x000041;", "A")
        self.check("&#xaf;&#xAF;&#xaF;", "\xaf\xaf\xaf")
        self.check("&#x10FFFF;", "\U0010ffff")
        self.check("&#xabcdef;", "\ufffd")

    def test_hexadecimal_almost_right(self):
        for source in ("&#x0000041;", "&#x41", "&#xg;", "&#x4g;", "&#xx41;", "&#x@;", "&#x`;", "&#x/;", "&#x:;", "&#xG;",
                       "&#x1@;", "&#x1`;", "&#x1/;", "&#x1:;", "&#x1G;", "&#x1g;"):
            self.check(source, source)

    def test_no_code_point(self):
        for number in (0, 55296, 56000, 57343, 1114112, 9999999):
            self.check("&#%d;" % number, "\ufffd")
        for number in (0, 0xd800, 0xdfff, 0x110000, 0xffffff):
            self.check("&#x%x;" % number, "\ufffd")
        for number in (55295, 57344):
            self.check("&#%d;" % number, chr(number))
        self.check("&#0000000;", "\ufffd")
        self.check("&#x000000;", "\ufffd")

    def test_cut_by_the_end_or_a_tag(self):
        self.assertEqual(in_body("<p>&am<b>p;"), "p('&am' b('p;'))")
        self.assertEqual(in_body("<p>&#6<!---->5;"), "p('&#6' #'' '5;')")

    def test_not_in_names(self):
        self.assertEqual(in_body("<b&amp;c d&lt;e>"), "b&amp;c{d&lt;e=''}")

    def test_blanks_told_by_references_are_blanks(self):
        self.assertEqual(in_body("&#32;&#10;&#9;&#12;x"), "'x'")
        self.assertEqual(in_body("<table>&#32;<tr>"), "table(' ' tbody(tr))")
        self.assertEqual(in_body("<p><b>x</p>&#32;y"), "p(b('x')) ' ' b('y')")

    def test_13_told_by_a_reference_is_no_blank(self):
        self.assertEqual(in_body("&#13;"), r"'\r'")
        self.assertEqual(in_body("<table>&#13;"), r"table '\r'")
        self.assertEqual(in_body("x&#13;\n"), r"'x\r\n'")

    def test_in_raw_elements(self):
        self.assertEqual(in_head("<title>&lt;&#65;&x;</title>"), "title('<A&x;')")
        self.assertEqual(in_body("<textarea>&lt;&#65;&x;</textarea>"), "textarea('<A&x;')")
        self.assertEqual(in_head("<script>&lt;&#65;</script>"), "script('&lt;&#65;')")
        self.assertEqual(in_head("<style>&lt;&#65;</style>"), "style('&lt;&#65;')")


if __name__ == "__main__":
    unittest.main()
