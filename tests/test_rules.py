"""DOC.md, "Before body" and "In body"."""

import unittest

from tests.helper import in_body, in_head, outline

HEADINGS = ("h1", "h2", "h3", "h4", "h5", "h6")


def many(first, last):
    return " ".join("n%d=%d" % (number, number) for number in range(first, last))


def shown(first, last):
    return " ".join("n%d='%d'" % (number, number) for number in range(first, last))


class BeforeBody(unittest.TestCase):
    def test_blanks_say_nothing(self):
        self.assertEqual(outline(" \n<html> <head> <meta> </head> "), "html(head(meta) body)")

    def test_text_from_its_first_that_is_no_blank(self):
        self.assertEqual(outline(" \t a b "), "html(head body('a b '))")

    def test_a_remark_is_put_in_head(self):
        self.assertEqual(outline("<!--a--><html><!--b--><head></head><!--c--><body><!--d-->"),
                         "html(head(#'a' #'b' #'c') body(#'d'))")

    def test_heads_are_put_in_head(self):
        source = "<base><link a=1><meta><title>x</title><style>y</style><script>z</script>"
        self.assertEqual(outline(source), "html(head(base link{a='1'} meta title('x') style('y') script('z')) body)")

    def test_heads_behind_the_heads_end_tag(self):
        self.assertEqual(outline("<head></head><meta>"), "html(head(meta) body)")

    def test_heads_in_body(self):
        self.assertEqual(outline("<body><meta><title>x</title>"), "html(head body(meta title('x')))")
        self.assertEqual(outline("<p><link>"), "html(head body(p(link)))")

    def test_attributes_of_html_and_head(self):
        self.assertEqual(outline("<html a=1 b=2><head c=3><html b=4 d=5><head c=6 e=7>"),
                         "html{a='1' b='2' d='5'}(head{c='3' e='7'} body)")

    def test_attributes_up_to_64(self):
        self.assertEqual(outline("<html %s><html %s>" % (many(0, 63), many(62, 66))),
                         "html{%s}(head body)" % shown(0, 64))
        self.assertEqual(outline("<head %s><head %s>" % (many(0, 40), many(30, 90))),
                         "html(head{%s} body)" % shown(0, 64))
        self.assertEqual(outline("<body %s><body x=1>" % many(0, 64)), "html(head body{%s})" % shown(0, 64))
        self.assertEqual(outline("<body %s><body x=1>" % many(0, 63)), "html(head body{%s x='1'})" % shown(0, 63))

    def test_end_tags_say_nothing(self):
        self.assertEqual(outline("</p></br></html></body></head></b></table><meta>"), "html(head(meta) body)")

    def test_bodys_start_tag(self):
        self.assertEqual(outline("<body a=1> <meta>"), "html(head body{a='1'}(' ' meta))")
        self.assertEqual(outline("<body/> x"), "html(head body(' x'))")

    def test_any_other_start_tag(self):
        for name in ("p", "i", "table", "foo", "textarea", "br"):
            self.assertEqual(outline("<%s></%s><meta>" % (name, name) if name != "br" else "<br><meta>"),
                             "html(head body(%s meta))" % name)

    def test_a_part_begins_body_and_is_nothing(self):
        self.assertEqual(outline("<tr><!--x-->"), "html(head body(#'x'))")
        self.assertEqual(outline("<col> "), "html(head body(' '))")


class Text(unittest.TestCase):
    def test_a_blank_is_put_just_so(self):
        self.assertEqual(in_body("<table> <tr>\t<td> x"), r"table(' ' tbody(tr('\t' td(' x'))))")

    def test_another_one_closes_the_table_of_a_frame(self):
        self.assertEqual(in_body("<table> x <tr>"), "table(' ') 'x '")
        self.assertEqual(in_body("<div><table><tr><td></td>x<p>y"), "div(table(tbody(tr(td))) 'x' p('y'))")
        self.assertEqual(in_body("<table><caption></caption>x"), "table(caption) 'x'")

    def test_only_the_nearest_table_is_closed(self):
        self.assertEqual(in_body("<table><td><table><tr>x<td>y"), "table(tbody(tr(td(table(tbody(tr)) 'x') td('y'))))")


class RemarkInBody(unittest.TestCase):
    def test_it_is_put_in_the_current_one(self):
        self.assertEqual(in_body("<p><!--a--><b><!--b--></b></p><!--c-->"), "p(#'a' b(#'b')) #'c'")
        self.assertEqual(in_body("<table><!--a--><tr><!--b-->"), "table(#'a' tbody(tr(#'b')))")

    def test_it_opens_nothing_again(self):
        self.assertEqual(in_body("<p><b></p><!--a-->x"), "p(b) #'a' b('x')")


class Point1(unittest.TestCase):
    def test_html_and_body(self):
        self.assertEqual(outline("<html a=1><body b=2><p><html a=3 c=4><body b=5 d=6>x"),
                         "html{a='1' c='4'}(head body{b='2' d='6'}(p('x')))")

    def test_attributes_up_to_64(self):
        self.assertEqual(outline("<body><html %s><html %s>" % (many(0, 60), many(50, 70))),
                         "html{%s}(head body)" % shown(0, 64))

    def test_head(self):
        self.assertEqual(outline("<head a=1><body><head a=2 b=3>x"), "html(head{a='1'} body('x'))")

    def test_in_a_table(self):
        self.assertEqual(outline("<table><tr><html a=1><body b=2><head><td>x"),
                         "html{a='1'}(head body{b='2'}(table(tbody(tr(td('x'))))))")

    def test_what_is_remembered_stays_so(self):
        self.assertEqual(in_body("<p><b></p><html><head><body><tr>x"), "p(b) b('x')")


class Point2(unittest.TestCase):
    def test_nothing_outside_a_table(self):
        for name in ("thead", "tbody", "tfoot", "tr", "colgroup", "td", "th", "caption", "col"):
            self.assertEqual(in_body("<div>a<%s>b" % name), "div('ab')")

    def test_a_cell_is_closed(self):
        for cell in ("td", "th"):
            source = "<table><%s><div><p>a<td>b<tr><th>c<tbody><td>d" % cell
            self.assertEqual(in_body(source),
                             "table(tbody(tr(%s(div(p('a'))) td('b')) tr(th('c'))) tbody(tr(td('d'))))" % cell)
        self.assertEqual(in_body("<table><caption><i>a<tr><td>b"), "table(caption(i('a')) tbody(tr(td('b'))))")
        self.assertEqual(in_body("<table><td>a<col>"), "table(tbody(tr(td('a'))) colgroup(col))")

    def test_a_cell_is_closed_through_a_button(self):
        self.assertEqual(in_body("<table><td><button><td>x"), "table(tbody(tr(td(button) td('x'))))")

    def test_only_the_nearest_cell_is_closed(self):
        self.assertEqual(in_body("<table><td><table><td>a<td>b"),
                         "table(tbody(tr(td(table(tbody(tr(td('a') td('b'))))))))")
        self.assertEqual(in_body("<table><td><table><tr><td>a"),
                         "table(tbody(tr(td(table(tbody(tr(td('a'))))))))")
        self.assertEqual(in_body("<table><td><table><td>a</table><td>b"),
                         "table(tbody(tr(td(table(tbody(tr(td('a'))))) td('b'))))")

    def test_groups_close_all_within_the_table(self):
        for name in ("caption", "colgroup", "thead", "tbody", "tfoot"):
            for before in ("", "<caption>", "<colgroup>", "<thead>", "<tfoot><tr>", "<tbody><tr><td>", "<td><b>"):
                source = "<table>%s<%s a=1><!--x-->" % (before, name)
                self.assertTrue(in_body(source).endswith("%s{a='1'}(#'x'))" % name), source)
                self.assertEqual(in_body(source).count("table"), 1)

    def test_col(self):
        self.assertEqual(in_body("<table><col a=1><col>"), "table(colgroup(col{a='1'} col))")
        self.assertEqual(in_body("<table><colgroup b=1><col a=1>"), "table(colgroup{b='1'}(col{a='1'}))")
        self.assertEqual(in_body("<table><tr><col>"), "table(tbody(tr) colgroup(col))")
        self.assertEqual(in_body("<table><tbody><col><tr>"), "table(tbody colgroup(col) tbody(tr))")

    def test_tr(self):
        self.assertEqual(in_body("<table><tr a=1><tr>"), "table(tbody(tr{a='1'} tr))")
        for name in ("thead", "tbody", "tfoot"):
            self.assertEqual(in_body("<table><%s a=1><tr><tr><td><tr>" % name),
                             "table(%s{a='1'}(tr tr(td) tr))" % name)
        self.assertEqual(in_body("<table><colgroup><tr>"), "table(colgroup tbody(tr))")
        self.assertEqual(in_body("<table><thead></thead><tr>"), "table(thead tbody(tr))")

    def test_td_and_th(self):
        for name in ("td", "th"):
            self.assertEqual(in_body("<table><%s a=1>" % name), "table(tbody(tr(%s{a='1'})))" % name)
            self.assertEqual(in_body("<table><tr a=1><%s>" % name), "table(tbody(tr{a='1'}(%s)))" % name)
            self.assertEqual(in_body("<table><thead><%s>" % name), "table(thead(tr(%s)))" % name)
            self.assertEqual(in_body("<table><tfoot><tr></tr><%s>" % name), "table(tfoot(tr tr(%s)))" % name)
            self.assertEqual(in_body("<table><colgroup><%s>" % name), "table(colgroup tbody(tr(%s)))" % name)
            self.assertEqual(in_body("<table><tr></tbody><%s>" % name), "table(tbody(tr) tbody(tr(%s)))" % name)

    def test_parts_in_an_inner_table_leave_the_outer_one_alone(self):
        self.assertEqual(in_body("<table><thead><td><table><tr><tbody>x"),
                         "table(thead(tr(td(table(tbody(tr) tbody) 'x'))))")

    def test_nothing_is_opened_again(self):
        self.assertEqual(in_body("<p><b></p><td>x"), "p(b) b('x')")


class Point3(unittest.TestCase):
    def test_the_table_is_closed(self):
        for name in ("b", "div", "br", "foo", "title", "textarea", "meta", "table", "form", "p", "option"):
            closed = "</%s>" % name if name in ("title", "textarea") else ""
            for frame in ("", "<tr>", "<thead>", "<tbody>", "<tfoot>", "<colgroup>", "<td></td>"):
                source = "<table>%s<%s>%s" % (frame, name, closed)
                self.assertTrue(in_body(source).endswith(" " + name), source)
                self.assertTrue(in_body(source).startswith("table"), source)

    def test_script_and_style_stay(self):
        for name in ("script", "style"):
            self.assertEqual(in_body("<table><%s>x</%s><tr><%s>y</%s><td>z" % ((name,) * 4)),
                             "table(%s('x') tbody(tr(%s('y') td('z'))))" % (name, name))
            self.assertEqual(in_body("<table><%s/><tr>" % name), "table(%s tbody(tr))" % name)

    def test_only_the_nearest_table(self):
        self.assertEqual(in_body("<table><td><table><tr><b>x<td>y"),
                         "table(tbody(tr(td(table(tbody(tr)) b('x')) td('y'))))")

    def test_not_within_a_cell(self):
        self.assertEqual(in_body("<table><td><b>x<div>y"), "table(tbody(tr(td(b('x' div('y'))))))")

    def test_it_goes_on(self):
        self.assertEqual(in_body("<form><table><tr><form>x"), "form(table(tbody(tr)) 'x')")
        self.assertEqual(in_body("<ul><li><table><li>x"), "ul(li(table) li('x'))")
        self.assertEqual(in_body("<a><table><a>x"), "a(table) a('x')")


class Point4(unittest.TestCase):
    def test_a_block_closes_p(self):
        self.assertEqual(in_body("<p>a<p>b<div>c"), "p('a') p('b') div('c')")
        self.assertEqual(in_body("<p><span><q>a<ul>b"), "p(span(q('a'))) ul('b')")
        self.assertEqual(in_body("<p>a<hr>b"), "p('a') hr 'b'")

    def test_not_a_p_with_a_wall_behind_it(self):
        self.assertEqual(in_body("<p><button><div>a"), "p(button(div('a')))")
        self.assertEqual(in_body("<p><button><p>a<p>b"), "p(button(p('a') p('b')))")

    def test_headings(self):
        for first in HEADINGS:
            for second in HEADINGS:
                self.assertEqual(in_body("<%s>a<%s>b" % (first, second)), "%s('a') %s('b')" % (first, second))
        self.assertEqual(in_body("<h1><b>a<h2>b"), "h1(b('a' h2('b')))")
        self.assertEqual(in_body("<h1>a<div>b"), "h1('a' div('b'))")

    def test_p_is_closed_ahead_of_the_heading(self):
        self.assertEqual(in_body("<h1><p>a<h2>b"), "h1(p('a')) h2('b')")

    def test_li(self):
        self.assertEqual(in_body("<li>a<li>b"), "li('a') li('b')")
        self.assertEqual(in_body("<li><div><b>a<li>b"), "li(div(b('a'))) li(b('b'))")
        for name in ("ul", "ol", "menu", "dir"):
            self.assertEqual(in_body("<li>a<%s><li>b<li>c" % name), "li('a' %s(li('b') li('c')))" % name)
        for name in ("dl", "div", "dd", "nav"):
            self.assertEqual(in_body("<li>a<%s><li>b" % name), "li('a' %s) li('b')" % name)
        self.assertEqual(in_body("<li><button><li>b"), "li(button(li('b')))")
        self.assertEqual(in_body("<li><table><td><li>b"), "li(table(tbody(tr(td(li('b'))))))")
        self.assertEqual(in_body("<li><table><caption><li>b"), "li(table(caption(li('b'))))")

    def test_dd_and_dt(self):
        for first in ("dd", "dt"):
            for second in ("dd", "dt"):
                self.assertEqual(in_body("<%s>a<%s>b" % (first, second)), "%s('a') %s('b')" % (first, second))
                self.assertEqual(in_body("<%s>a<dl><%s>b" % (first, second)), "%s('a' dl(%s('b')))" % (first, second))
                self.assertEqual(in_body("<%s>a<ul><li><%s>b" % (first, second)),
                                 "%s('a' ul(li)) %s('b')" % (first, second))
                self.assertEqual(in_body("<%s><button><%s>b" % (first, second)), "%s(button(%s('b')))" % (first, second))

    def test_li_and_dd_leave_each_other_alone(self):
        self.assertEqual(in_body("<dd><li>a"), "dd(li('a'))")
        self.assertEqual(in_body("<li><dt>a"), "li(dt('a'))")

    def test_option(self):
        self.assertEqual(in_body("<option>a<option>b"), "option('a') option('b')")
        self.assertEqual(in_body("<option><span>a<option>b"), "option(span('a' option('b')))")
        self.assertEqual(in_body("<optgroup><option>a<option>b"), "optgroup(option('a') option('b'))")
        self.assertEqual(in_body("<optgroup>a<option>b"), "optgroup('a' option('b'))")

    def test_optgroup(self):
        self.assertEqual(in_body("<optgroup><option>a<optgroup>b"), "optgroup(option('a')) optgroup('b')")
        self.assertEqual(in_body("<optgroup>a<optgroup>b"), "optgroup('a') optgroup('b')")
        self.assertEqual(in_body("<option>a<optgroup>b"), "option('a') optgroup('b')")
        self.assertEqual(in_body("<optgroup><span><option>a<optgroup>b"), "optgroup(span(option('a') optgroup('b')))")
        self.assertEqual(in_body("<option><optgroup/><option>"), "option optgroup option")

    def test_button(self):
        self.assertEqual(in_body("<button>a<button>b"), "button('a') button('b')")
        self.assertEqual(in_body("<button><div><span>a<button>b"), "button(div(span('a'))) button('b')")
        self.assertEqual(in_body("<button><table><td>a<button>b"), "button(table(tbody(tr(td('a'))))) button('b')")

    def test_form(self):
        self.assertEqual(in_body("<form>a<form>b</form>c"), "form('ab') 'c'")
        self.assertEqual(in_body("<form><div><form>a"), "form(div('a'))")
        self.assertEqual(in_body("<form>a</form><form>b"), "form('a') form('b')")
        self.assertEqual(in_body("<form><table><td><form>a"), "form(table(tbody(tr(td('a')))))")
        self.assertEqual(in_body("<form/><form>a"), "form form('a')")

    def test_a_form_that_is_nothing_still_closes_p(self):
        self.assertEqual(in_body("<form><p>a<form>b"), "form(p('a') 'b')")

    def test_a(self):
        self.assertEqual(in_body("<a h=1>x<a h=2>y"), "a{h='1'}('x') a{h='2'}('y')")
        self.assertEqual(in_body("<a><div>x<a>y"), "a(div('x')) a('y')")
        self.assertEqual(in_body("<a>x<a/>y"), "a('x') a 'y'")

    def test_what_is_styled_within_a_is_remembered(self):
        self.assertEqual(in_body("<a><b><i>x<a>y"), "a(b(i('x'))) b(i(a('y')))")

    def test_no_a_is_remembered_any_more(self):
        self.assertEqual(in_body("<p><b><a><i>x</p><a h=1>y"), "p(b(a(i('x')))) b(i(a{h='1'}('y')))")

    def test_an_a_with_a_wall_behind_it_stays(self):
        self.assertEqual(in_body("<a>x<button><a>y"), "a('x' button(a('y')))")
        self.assertEqual(in_body("<a>x<table><td><a>y</table>z"), "a('x' table(tbody(tr(td(a('y'))))) 'z')")

    def test_others_close_nothing(self):
        self.assertEqual(in_body("<p><b><span><b>x"), "p(b(span(b('x'))))")
        self.assertEqual(in_body("<select><option>a<select>b"), "select(option('a' select('b')))")
        self.assertEqual(in_body("<div>a<div>b"), "div('a' div('b'))")


class Point5(unittest.TestCase):
    def test_a_block_opens_nothing_again(self):
        self.assertEqual(in_body("<p><b>x<div><p>y"), "p(b('x')) div(p(b('y')))")
        self.assertEqual(in_body("<p><b>x<hr>y"), "p(b('x')) hr b('y')")

    def test_others_do(self):
        self.assertEqual(in_body("<p><b>x</p><span>y"), "p(b('x')) b(span('y'))")

    def test_it_is_put_and_opened(self):
        self.assertEqual(in_body("<foo a=1>x<bar>y"), "foo{a='1'}('x' bar('y'))")


class EndTags(unittest.TestCase):
    def test_html_head_body(self):
        self.assertEqual(outline("<body><p>a</html>b</body>c</head>d"), "html(head body(p('abcd')))")

    def test_br(self):
        self.assertEqual(in_body("<p>a</br a=1>b"), "p('a' br 'b')")
        self.assertEqual(in_body("<p><b>a</p></br>b"), "p(b('a')) b(br 'b')")
        self.assertEqual(in_body("<table><tr></br>"), "table(tbody(tr)) br")

    def test_p(self):
        self.assertEqual(in_body("<p>a</p>b"), "p('a') 'b'")
        self.assertEqual(in_body("<p><span>a</p>b"), "p(span('a')) 'b'")

    def test_p_without_an_open_one(self):
        self.assertEqual(in_body("a</p a=1>b"), "'a' p 'b'")
        self.assertEqual(in_body("<p>a</p></p>b"), "p('a') p 'b'")
        self.assertEqual(in_body("<p><button>a</p>b"), "p(button('a' p 'b'))")
        self.assertEqual(in_body("<table><tr></p>a"), "table(tbody(tr)) p 'a'")
        self.assertEqual(in_body("x</p/>b"), "'x' p 'b'")

    def test_p_without_an_open_one_opens_nothing_again_and_forgets_nothing(self):
        self.assertEqual(in_body("<div><b>a</div></p>b"), "div(b('a')) p b('b')")

    def test_table(self):
        self.assertEqual(in_body("<table><tr><td><div>a</table>b"), "table(tbody(tr(td(div('a'))))) 'b'")
        self.assertEqual(in_body("<table><td><table></table>a</table>b"), "table(tbody(tr(td(table 'a')))) 'b'")
        self.assertEqual(in_body("<table><td><button><b>a</table>b"), "table(tbody(tr(td(button(b('a')))))) 'b'")
        self.assertEqual(in_body("<div>a</table>b"), "div('ab')")

    def test_parts(self):
        self.assertEqual(in_body("<table><td>a</td><td>b"), "table(tbody(tr(td('a') td('b'))))")
        self.assertEqual(in_body("<table><th><div><button>a</th><td>b"), "table(tbody(tr(th(div(button('a'))) td('b'))))")
        self.assertEqual(in_body("<table><td>a</tr> "), "table(tbody(tr(td('a')) ' '))")
        for name in ("thead", "tbody", "tfoot"):
            self.assertEqual(in_body("<table><%s><tr><td>a</%s> " % (name, name)), "table(%s(tr(td('a'))) ' ')" % name)
        self.assertEqual(in_body("<table><colgroup></colgroup> "), "table(colgroup ' ')")
        self.assertEqual(in_body("<table><caption><p>a</caption> "), "table(caption(p('a')) ' ')")
        self.assertEqual(in_body("<table><col></col> "), "table(colgroup(col ' '))")

    def test_parts_that_are_not_open(self):
        for name in ("thead", "tfoot", "th", "caption", "colgroup", "col"):
            self.assertEqual(in_body("<table><td>a</%s>b" % name), "table(tbody(tr(td('ab'))))")
        for name in ("tr", "td", "tbody"):
            self.assertEqual(in_body("<div>a</%s>b" % name), "div('ab')")

    def test_parts_with_a_table_behind_them(self):
        for name in ("td", "tr", "tbody"):
            self.assertEqual(in_body("<table><td><table></%s> " % name), "table(tbody(tr(td(table(' ')))))")

    def test_others(self):
        self.assertEqual(in_body("<div><span>a</div>b"), "div(span('a')) 'b'")
        self.assertEqual(in_body("<span>a<span>b</span>c</span>d"), "span('a' span('b') 'c') 'd'")
        self.assertEqual(in_body("<h1>a</h2>b"), "h1('ab')")
        self.assertEqual(in_body("<form><div>a</form>b"), "form(div('a')) 'b'")
        self.assertEqual(in_body("<i>a</hr></input></script></x>b"), "i('ab')")

    def test_others_with_a_wall_behind_them(self):
        self.assertEqual(in_body("<div><button>a</div>b"), "div(button('ab'))")
        self.assertEqual(in_body("<b><table><td>a</b>b"), "b(table(tbody(tr(td('ab')))))")
        self.assertEqual(in_body("<b><table></b>b"), "b(table 'b')")

    def test_it_may_be_a_wall_itself(self):
        self.assertEqual(in_body("<button><div>a</button>b"), "button(div('a')) 'b'")
        self.assertEqual(in_body("<button><table><td>a</button>b"), "button(table(tbody(tr(td('ab')))))")

    def test_styled_ones(self):
        self.assertEqual(in_body("<b>a<i>b</b>c</i>d"), "b('a' i('b')) i('c') 'd'")

    def test_a_styled_one_that_is_not_open_is_remembered_no_longer(self):
        self.assertEqual(in_body("<p><b><i>a</p></b>b"), "p(b(i('a'))) i('b')")
        self.assertEqual(in_body("<p><b><i>a</p></i>b"), "p(b(i('a'))) b('b')")
        self.assertEqual(in_body("<p><b>a</p></i></p></u>b"), "p(b('a')) p b('b')")
        self.assertEqual(in_body("<p><b><s>a</p></i></u>b"), "p(b(s('a'))) b(s('b'))")

    def test_the_last_of_that_name_is(self):
        source = "<p><b x=1><i><b x=2><u>a</p></b>b"
        self.assertTrue(in_body(source).endswith(" b{x='1'}(i(u('b')))"))
        source = "<p><b x=1><i><b x=2><u>a</p></b></b>b"
        self.assertTrue(in_body(source).endswith(" i(u('b'))"))

    def test_an_open_one_is_closed_ahead_of_that(self):
        self.assertEqual(in_body("<i><p><i x=1>a</p></i>b"), "i(p(i{x='1'}('a'))) i{x='1'}('b')")

    def test_an_end_tag_in_a_frame_closes_no_table(self):
        self.assertEqual(in_body("<div><table><tr></div></b></x><td>a"), "div(table(tbody(tr(td('a')))))")


class Head(unittest.TestCase):
    def test_nothing_goes_to_head_when_body_has_begun(self):
        self.assertEqual(in_head("<p></p><head><title>x</title><!--y-->"), "")


if __name__ == "__main__":
    unittest.main()
