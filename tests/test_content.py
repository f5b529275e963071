"""Point 5: content."""

from tests.helper import FormTest


class Content(FormTest):
    def test_all_that_may_stand_in_it(self):
        self.assert_told(
            "<a>1<b>2</b>&amp;<![CDATA[<3>]]><!--4--><?p 5?><c/>6</a>",
            "<a>1<b>2</b>&amp;&lt;3&gt;<?p 5?><c></c>6</a>",
        )

    def test_spaces_are_kept(self):
        self.assert_told("<a> \t\n<b/> </a>", "<a> \t\n<b></b> </a>")

    def test_characters_but_two(self):
        self.assert_told("<a>\"'>=/?!-;#\u20ac</a>", "<a>\"'&gt;=/?!-;#\u20ac</a>")
        for content in ("<", "1<2", "1 < 2", "<1/>", "&", "1&2", "& ", "<!", "<!x>", "<!-x-->"):
            self.assert_no_document(f"<a>{content}</a>")

    def test_brackets_that_may_stand(self):
        self.assert_told("<a>]</a>", "<a>]</a>")
        self.assert_told("<a>]]</a>", "<a>]]</a>")
        self.assert_told("<a>]></a>", "<a>]&gt;</a>")
        self.assert_told("<a>]] ></a>", "<a>]] &gt;</a>")
        self.assert_told("<a>] ]></a>", "<a>] ]&gt;</a>")

    def test_brackets_that_may_not(self):
        for content in ("]]>", "x]]>", "]]]>", "]]>x", "<b/>]]>", "<![CDATA[]]>]]>", "<![CDATA[]]]]>]]>", "&amp;]]>"):
            self.assert_no_document(f"<a>{content}</a>")

    def test_brackets_with_something_between(self):
        self.assert_told("<a>]]&gt;</a>", "<a>]]&gt;</a>")
        self.assert_told("<a>]&#93;></a>", "<a>]]&gt;</a>")
        self.assert_told("<a>]]<!---->></a>", "<a>]]&gt;</a>")
        self.assert_told("<a>]]<![CDATA[]]>></a>", "<a>]]&gt;</a>")
        self.assert_told("<a>]<?p?>]></a>", "<a>]<?p?>]&gt;</a>")

    def test_brackets_in_other_places(self):
        self.assert_told("<a b=']]>'><!--]]>--><?p ]]>?></a>", '<a b="]]>"><?p ]]>?></a>')


class Cdata(FormTest):
    def test_any_characters(self):
        self.assert_told("<a><![CDATA[<b>&amp;&x;<!--]]></a>", "<a>&lt;b&gt;&amp;amp;&amp;x;&lt;!--</a>")
        self.assert_told("<a><![CDATA[]]></a>", "<a></a>")
        self.assert_told("<a><![CDATA[<![CDATA[]]></a>", "<a>&lt;![CDATA[</a>")
        self.assert_told("<a><![CDATA[\t\"'\u00e9]]></a>", "<a>\t\"'\u00e9</a>")

    def test_up_to_the_first_end(self):
        self.assert_told("<a><![CDATA[]]]></a>", "<a>]</a>")
        self.assert_told("<a><![CDATA[]]]]></a>", "<a>]]</a>")
        self.assert_told("<a><![CDATA[]>]] >]]></a>", "<a>]&gt;]] &gt;</a>")
        self.assert_told("<a><![CDATA[1]]>2<![CDATA[3]]></a>", "<a>123</a>")
        self.assert_told("<a><![CDATA[]]]]><![CDATA[>]]></a>", "<a>]]&gt;</a>")

    def test_in_its_own_letters(self):
        for content in ("<![cdata[1]]>", "<![CDATA [1]]>", "<! [CDATA[1]]>", "<![CDATA1]]>", "<[CDATA[1]]>", "<![CDATA["):
            self.assert_no_document(f"<a>{content}</a>")

    def test_without_an_end(self):
        for content in ("<![CDATA[1", "<![CDATA[1]]", "<![CDATA[1]>", "<![CDATA[1]] >"):
            self.assert_no_document(f"<a>{content}</a>")
