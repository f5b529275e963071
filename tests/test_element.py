"""Point 4: elements and attributes."""

from tests.helper import FormTest


class Tags(FormTest):
    def test_both_ways_of_an_empty_element(self):
        self.assert_told("<a/>", "<a></a>")
        self.assert_told("<a></a>", "<a></a>")

    def test_spaces_as_wanted(self):
        self.assert_told("<a \t\r\n/>", "<a></a>")
        self.assert_told("<a \t\r\n></a \t\r\n>", "<a></a>")
        self.assert_told("<a b='1' />", '<a b="1"></a>')
        self.assert_told("<a b='1' ></a>", '<a b="1"></a>')

    def test_spaces_where_none_may_stand(self):
        for text in ("< a/>", "<a/ >", "<a / >", "<a>< /a>", "<a></ a>", "<a>< b/></a>", "< a></a>"):
            self.assert_no_document(text)

    def test_names_the_same(self):
        for text in ("<a></b>", "<a></A>", "<a></aa>", "<aa></a>", "<a><b></a></b>", "<a:b></b>", "<a><b></b></b>"):
            self.assert_no_document(text)

    def test_cut_short(self):
        whole = "<ab c='d'>e<f g=\"h\"/><!--i--><?j k?><![CDATA[l]]>&amp;&#x41;</ab >"
        self.assert_told(whole, '<ab c="d">e<f g="h"></f><?j k?>l&amp;A</ab>')
        for length in range(len(whole)):
            self.assert_no_document(whole[:length])

    def test_an_end_without_a_beginning(self):
        for text in ("</a>", "<a/></a>", "<a></a></a>", "</a><a>"):
            self.assert_no_document(text)

    def test_other_signs(self):
        for text in ("<a/", "<a//>", "<a\\>", "<a></a/>", "<a></a b='1'>", "<a></>", "<a?>", "<a<b/>>", "<a></a", "<!a/>"):
            self.assert_no_document(text)


class Attributes(FormTest):
    def test_either_quote(self):
        self.assert_told("<a b=\"1\" c='2'/>", '<a b="1" c="2"></a>')
        self.assert_told("<a b=\"it's\" c='\"'/>", '<a b="it\'s" c="&quot;"></a>')
        self.assert_told("<a b=\"\" c=''/>", '<a b="" c=""></a>')

    def test_quotes_that_do_not_fit(self):
        for text in ("<a b=1/>", "<a b='1\"/>", "<a b=\"1'/>", "<a b='1/>", "<a b='1''/>", "<a b=`1`/>", "<a b=\"1\"\"/>"):
            self.assert_no_document(text)

    def test_spaces_about_the_sign(self):
        self.assert_told("<a b \t\n= \t\n'1'/>", '<a b="1"></a>')
        self.assert_told("<a b= '1'/>", '<a b="1"></a>')
        self.assert_told("<a b ='1'/>", '<a b="1"></a>')

    def test_a_space_or_more_before_each(self):
        self.assert_told("<a  b='1' \t\n c='2'/>", '<a b="1" c="2"></a>')
        self.assert_no_document("<a b='1'c='2'/>")
        self.assert_no_document("<a b=\"1\"c=\"2\"/>")
        self.assert_no_document("<a'1'/>")

    def test_each_part_is_there(self):
        for text in ("<a b/>", "<a b></a>", "<a b=/>", "<a b=></a>", "<a ='1'/>", "<a '1'/>", "<a b '1'/>", "<a b=='1'/>"):
            self.assert_no_document(text)

    def test_no_name_twice(self):
        self.assert_no_document("<a b='1' b='2'/>")
        self.assert_no_document("<a b='1' b='1'/>")
        self.assert_no_document("<a b='1' c='1' b='1'/>")
        self.assert_no_document("<a><c \u00e9='1' \u00e9='2'/></a>")

    def test_a_name_in_another_element_or_another_name(self):
        self.assert_told("<a b='1'><a b='1'/></a>", '<a b="1"><a b="1"></a></a>')
        self.assert_told("<a b='1' bb='2' B='3'/>", '<a B="3" b="1" bb="2"></a>')

    def test_many(self):
        names = [f"n{number}" for number in range(900)]
        told = "".join(f' {name}=""' for name in sorted(names))
        self.assert_told("<a" + "".join(f" {name}=''" for name in names) + "/>", f"<a{told}></a>")

    def test_none_behind_the_end(self):
        self.assert_no_document("<a></a b='1'>")


class Values(FormTest):
    def test_any_character_but_the_two(self):
        self.assert_told("<a b='>]]>-->?>/=\u00e9\U0010ffff'/>", '<a b=">]]>-->?>/=\u00e9\U0010ffff"></a>')
        self.assert_no_document("<a b='<'/>")
        self.assert_no_document("<a b=\"1<2\"/>")
        self.assert_no_document("<a b='<!---->'/>")
        self.assert_no_document("<a b='<![CDATA[1]]>'/>")

    def test_9_and_10_are_spaces(self):
        self.assert_told("<a b='\t1\n2\t\n3\r\n4\r5  '/>", '<a b=" 1 2  3 4 5  "></a>')

    def test_references(self):
        self.assert_told("<a b='&amp;&lt;&gt;&quot;&apos;'/>", '<a b="&amp;&lt;>&quot;\'"></a>')
        self.assert_told("<a b='&#60;&#x26;&#39;&#34;'/>", '<a b="&lt;&amp;\'&quot;"></a>')

    def test_9_10_and_13_in_references_stand_as_they_are(self):
        self.assert_told("<a b='&#9;&#10;&#13;&#32;&#x9;&#xA;&#xD;'/>", '<a b="&#x9;&#xA;&#xD; &#x9;&#xA;&#xD;"></a>')

    def test_an_and_sign_begins_a_reference(self):
        for value in ("&", "&&", "& amp;", "&amp", "a&b", "&nbsp;", "&;", "&#;", "&#x;", "&#0;"):
            self.assert_no_document(f"<a b='{value}'/>")

    def test_a_reference_is_not_read_again(self):
        self.assert_told("<a b='&amp;lt;&#38;amp;'/>", '<a b="&amp;lt;&amp;amp;"></a>')

    def test_a_reference_does_not_reach_beyond_the_quote(self):
        self.assert_no_document("<a b='&amp' c=';'/>")
