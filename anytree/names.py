"""The names of the elements that the rules speak of, list by list."""

VOID = (
    "area", "base", "br", "col", "embed", "hr", "img", "input", "link", "meta", "source", "track", "wbr",
)
STYLED = (
    "a", "b", "big", "code", "em", "font", "i", "s", "small", "strike", "strong", "tt", "u",
)
BLOCKS = (
    "address", "article", "aside", "blockquote", "center", "dd", "details", "dialog", "dir", "div", "dl", "dt",
    "fieldset", "figcaption", "figure", "footer", "form", "h1", "h2", "h3", "h4", "h5", "h6", "header", "hgroup",
    "hr", "li", "main", "menu", "nav", "ol", "p", "pre", "section", "table", "ul",
)
HEADINGS = ("h1", "h2", "h3", "h4", "h5", "h6")
WALLS = ("html", "body", "table", "td", "th", "caption", "button")
FRAMES = ("table", "thead", "tbody", "tfoot", "tr", "colgroup")
CELLS = ("td", "th", "caption")
PARTS = ("thead", "tbody", "tfoot", "tr", "colgroup", "td", "th", "caption", "col")
ROW_GROUPS = ("thead", "tbody", "tfoot")
HEADS = ("base", "link", "meta", "title", "style", "script")
RAW = ("script", "style", "title", "textarea")
RAW_WITHOUT_REFERENCES = ("script", "style")
