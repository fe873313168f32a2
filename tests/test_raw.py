"""DOC.md, "What's read": raw elements, and the 10 that's nothing."""

import unittest

from anytree.page import answers
from tests.helper import feed, in_body, in_head, outline

RAW = ("script", "style", "title", "textarea")


class Raw(unittest.TestCase):
    def test_all_is_text_up_to_the_end_tag(self):
        for name in RAW:
            source = "x<%s><b>a</b><!-- c --></x>\n</%s>y" % (name, name)
            self.assertEqual(in_body(source), r"'x' %s('<b>a</b><!-- c --></x>\n') 'y'" % name)

    def test_no_other_is_raw(self):
        for name in ("noscript", "xmp", "iframe", "noframes", "plaintext", "svg", "pre", "option", "scripts"):
            self.assertEqual(in_body("x<%s><i>a" % name), "'x' %s(i('a'))" % name)

    def test_the_end_tag_is_of_whatever_size(self):
        for name in RAW:
            self.assertEqual(in_body("x<%s>a</%s>y" % (name, name.upper())), "'x' %s('a') 'y'" % name)
            self.assertEqual(in_body("x<%s>a</%s>y" % (name.upper(), name)), "'x' %s('a') 'y'" % name)

    def test_what_stands_behind_the_name(self):
        for name in RAW:
            for behind in (">", " >", "\t>", "\n>", "\f>", "/>", " a='>'>", "/a>"):
                self.assertEqual(in_body("x<%s>a</%s%sy" % (name, name, behind)), "'x' %s('a') 'y'" % name)

    def test_almost_an_end_tag(self):
        for name in RAW:
            for almost in ("</%sx>", "</ %s>", "<%s>", "</%s<", "</%s=>", "</%s\v>", "< /%s>", "<//%s>"):
                text = "a" + almost % name
                self.assertEqual(in_body("x<%s>%s</%s>y" % (name, text, name)), "'x' %s(%s) 'y'" % (name, ascii(text)))

    def test_another_raw_elements_end_tag(self):
        self.assertEqual(in_body("x<script>a</style>b</script>c"), "'x' script('a</style>b') 'c'")

    def test_to_the_end_of_all(self):
        for name in RAW:
            self.assertEqual(in_body("x<%s>a<b>c" % name), "'x' %s('a<b>c')" % name)
            self.assertEqual(in_body("x<%s>" % name), "'x' %s" % name)

    def test_an_end_tag_that_the_end_cuts_off(self):
        for name in RAW:
            for cut in ("", " ", " a", " a='>", "/"):
                self.assertEqual(in_body("x<%s>a</%s%s" % (name, name, cut)), "'x' %s('a')" % name)
            self.assertEqual(in_body("x<%s>a</%s" % (name, name[:-1])), "'x' %s('a</%s')" % (name, name[:-1]))
            self.assertEqual(in_body("x<%s>a</" % name), "'x' %s('a</')" % name)

    def test_without_text(self):
        for name in RAW:
            self.assertEqual(in_body("x<%s></%s>y" % (name, name)), "'x' %s 'y'" % name)

    def test_with_attributes(self):
        self.assertEqual(in_body("x<script a=1>b</script>"), "'x' script{a='1'}('b')")

    def test_a_short_one_has_no_text(self):
        for name in RAW:
            self.assertEqual(in_body("x<%s/><i>y</%s>z" % (name, name)), "'x' %s i('yz')" % name)

    def test_a_script_is_not_ended_by_a_remark(self):
        self.assertEqual(in_body("x<script><!--</script>-->"), "'x' script('<!--') '-->'")

    def test_an_end_tag_alone_says_nothing(self):
        for name in RAW:
            self.assertEqual(in_body("<p>x</%s>y" % name), "p('xy')")

    def test_textarea_begins_body(self):
        self.assertEqual(outline("<textarea>a"), "html(head body(textarea('a')))")


class FirstLineFeed(unittest.TestCase):
    def test_behind_pre(self):
        self.assertEqual(in_body("<pre>\nx"), "pre('x')")
        self.assertEqual(in_body("<pre>\n\nx"), r"pre('\nx')")
        self.assertEqual(in_body("<pre>\r\nx"), "pre('x')")
        self.assertEqual(in_body("<pre>\rx"), "pre('x')")
        self.assertEqual(in_body("<PRE a=1>\nx"), "pre{a='1'}('x')")
        self.assertEqual(in_body("<pre>\n"), "pre")
        self.assertEqual(in_body("<pre>"), "pre")

    def test_told_by_a_reference(self):
        for reference in ("&#10;", "&#xa;", "&#X00000A;"):
            self.assertEqual(in_body("<pre>" + reference + "x"), "pre('x')")
            self.assertEqual(in_body("<textarea>" + reference + "x"), "textarea('x')")
        self.assertEqual(in_body("<pre>&#10;\nx"), r"pre('\nx')")
        self.assertEqual(in_body("<pre>\n&#10;x"), r"pre('\nx')")
        self.assertEqual(in_body("<textarea>\n&#10;x"), r"textarea('\nx')")
        self.assertEqual(in_body("<pre>&#13;\nx"), r"pre('\r\nx')")

    def test_only_the_first(self):
        self.assertEqual(in_body("<pre> \nx"), r"pre(' \nx')")
        self.assertEqual(in_body("<pre><i>\nx"), r"pre(i('\nx'))")
        self.assertEqual(in_body("<pre><!---->\nx"), r"pre(#'' '\nx')")
        self.assertEqual(in_body("<pre></x>\nx"), r"pre('\nx')")
        self.assertEqual(in_body("<pre><head>\nx"), r"pre('\nx')")
        self.assertEqual(in_body("<pre></br>\nx"), r"pre(br '\nx')")
        self.assertEqual(in_body("<pre>x</pre>\ny"), r"pre('x') '\ny'")

    def test_what_is_nothing_does_not_come_first(self):
        for nothing in ("<!x>", "<!>", "<!->", "<?x>", "<?>", "</>", "</ x>", "</1>", "<!\n>", "<!x><?x></>"):
            for line_end in ("\n", "\r\n", "\r", "&#10;", "&#xA;"):
                self.assertEqual(in_body("<pre>" + nothing + line_end + "x"), "pre('x')", nothing)
            self.assertEqual(in_body("<pre>" + nothing + "\n\nx"), r"pre('\nx')", nothing)
            self.assertEqual(in_body("<pre>\n" + nothing + "\nx"), r"pre('\nx')", nothing)
            self.assertEqual(in_body("<pre>" + nothing + "\n" + nothing + "\nx"), r"pre('\nx')", nothing)
            self.assertEqual(in_body("<pre>" + nothing + "\n"), "pre", nothing)
            self.assertEqual(in_body("<pre>" + nothing), "pre", nothing)

    def test_a_whole_answer_behind_what_is_nothing(self):
        calls = feed("<pre><!x>\nA") + [2, 3]
        told = [5, 1, 1, 4, 104, 116, 109, 108, 0, 1, 2, 4, 104, 101, 97, 100, 0, 1, 2, 4, 98, 111, 100, 121, 0,
                1, 3, 3, 112, 114, 101, 0, 2, 4, 1, 65]
        sent = list(b"<html><head></head><body><pre>A</pre></body></html>")
        self.assertEqual(answers(calls), [1, 0, 36] + told + [52, 51] + sent)

    def test_what_is_nothing_does_not_make_another_one_first(self):
        for nothing in ("<!x>", "<?x>", "</>", "<!x><?x></>"):
            self.assertEqual(in_body("<pre>" + nothing + "x\n"), r"pre('x\n')")
            self.assertEqual(in_body("<pre> " + nothing + "\nx"), r"pre(' \nx')")
            self.assertEqual(in_body("<pre>" + nothing + "<i>\nx"), r"pre(i('\nx'))")
            self.assertEqual(in_body("<pre>" + nothing + "<!--c-->\nx"), r"pre(#'c' '\nx')")
            self.assertEqual(in_body("<pre>" + nothing + "</x>\nx"), r"pre('\nx')")
            self.assertEqual(in_body("<pre><i></i>" + nothing + "\nx"), r"pre(i '\nx')")
            self.assertEqual(in_body("<pre/>" + nothing + "\nx"), r"pre '\nx'")
            self.assertEqual(in_body("<p>" + nothing + "\nx"), r"p('\nx')")
            self.assertIn(r"div('\nx')", in_body("<div>" * 197 + "<pre>" + nothing + "\nx"))

    def test_what_is_nothing_up_to_the_end(self):
        for cut in ("<!", "<!x\n", "<?", "</", "</ x\n", "<!x></"):
            self.assertEqual(in_body("<pre>" + cut), "pre")

    def test_in_a_textarea_it_is_text(self):
        self.assertEqual(in_body("<textarea><!x>\nx"), r"textarea('<!x>\nx')")

    def test_behind_textarea(self):
        self.assertEqual(in_body("<textarea>\nx</textarea>"), "textarea('x')")
        self.assertEqual(in_body("<textarea>\n\nx</textarea>"), r"textarea('\nx')")
        self.assertEqual(in_body("<textarea>\r\nx</textarea>"), "textarea('x')")
        self.assertEqual(in_body("<textarea>\n</textarea>y"), "textarea 'y'")
        self.assertEqual(in_body("<textarea>\n"), "textarea")

    def test_behind_no_other(self):
        self.assertEqual(in_body("<p>\nx"), r"p('\nx')")
        for name in ("script", "style", "title"):
            self.assertEqual(in_body("x<%s>\ny</%s>" % (name, name)), r"'x' %s('\ny')" % name)

    def test_behind_a_short_tag_it_is_text(self):
        self.assertEqual(in_body("<pre/>\nx"), r"pre '\nx'")
        self.assertEqual(in_body("<textarea/>\nx"), r"textarea '\nx'")

    def test_behind_a_pre_that_is_not_opened_it_is_text(self):
        self.assertIn(r"div('\nx')", in_body("<div>" * 197 + "<pre>\nx"))
        self.assertIn("div(pre('x'))", in_body("<div>" * 196 + "<pre>\nx"))


class RawInHead(unittest.TestCase):
    def test_head_goes_on_behind_it(self):
        source = "<title>a</title> <style>b</style><script>c</script><meta>"
        self.assertEqual(in_head(source), "title('a') style('b') script('c') meta")


if __name__ == "__main__":
    unittest.main()
