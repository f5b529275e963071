"""Point 6: comments, instructions and references."""

from tests.helper import FormTest


class Comments(FormTest):
    def assert_everywhere(self, comment):
        self.assert_told(f"{comment}<a>1{comment}2</a>{comment}", "<a>12</a>")

    def assert_nowhere(self, comment):
        self.assert_no_document(f"{comment}<a/>")
        self.assert_no_document(f"<a>{comment}</a>")
        self.assert_no_document(f"<a/>{comment}")

    def test_any_characters_without_two_dashes(self):
        for inside in ("", " ", "x", "<a>", "&", "&x;", "]]>", "?>", "<?xml?>", "-x", " - ", "- - ", "->", "\u00e9", "\n"):
            self.assert_everywhere(f"<!--{inside}-->")

    def test_two_dashes(self):
        for inside in ("--", "a--b", "-- ", " -- ", "--->x", "<!--"):
            self.assert_nowhere(f"<!--{inside}-->")

    def test_a_dash_before_the_end(self):
        self.assert_nowhere("<!--->")
        self.assert_nowhere("<!----->")
        self.assert_nowhere("<!--a--->")

    def test_its_signs(self):
        for comment in ("<!-->", "<!- x -->", "<! -- x -->", "<!--x-- >", "<!--x->", "<!--x", "<!--x--", "<--x-->"):
            self.assert_nowhere(comment)

    def test_not_within_a_tag(self):
        self.assert_no_document("<a <!---->/>")
        self.assert_no_document("<a></a<!---->>")
        self.assert_no_document("<<!---->a/>")


class Instructions(FormTest):
    def assert_everywhere(self, instruction, told):
        self.assert_told(
            f"{instruction}<a>1{instruction}2</a>{instruction}",
            f"{told}\n<a>1{told}2</a>\n{told}",
        )

    def assert_nowhere(self, instruction):
        self.assert_no_document(f"{instruction}<a/>")
        self.assert_no_document(f"<a>{instruction}</a>")
        self.assert_no_document(f"<a/>{instruction}")

    def test_without_data(self):
        self.assert_everywhere("<?p?>", "<?p?>")
        self.assert_everywhere("<?p ?>", "<?p?>")
        self.assert_everywhere("<?p \t\r\n ?>", "<?p?>")

    def test_with_data(self):
        self.assert_everywhere("<?p q?>", "<?p q?>")
        self.assert_everywhere("<?p \t\n q?>", "<?p q?>")
        self.assert_everywhere("<?p q \t\n?>", "<?p q \t\n?>")
        self.assert_everywhere("<?p q  r\ts?>", "<?p q  r\ts?>")

    def test_data_stands_as_it_is(self):
        self.assert_everywhere("<?p <a>&amp;&x;\"']]>--\u00e9?>", "<?p <a>&amp;&x;\"']]>--\u00e9?>")

    def test_up_to_the_first_end(self):
        self.assert_everywhere("<?p ??>", "<?p ??>")
        self.assert_everywhere("<?p ? > ?>", "<?p ? > ?>")
        self.assert_everywhere("<?p <?q?>", "<?p <?q?>")
        self.assert_no_document("<?p q?>?><a/>")

    def test_the_name_is_not_xml_in_any_case(self):
        for name in ("xml", "XML", "Xml", "xMl", "xmL", "XMl", "XmL", "xML"):
            self.assert_nowhere(f"<?{name}?>")
            self.assert_nowhere(f"<?{name} a?>")

    def test_names_like_xml(self):
        for name in ("xm", "xmlx", "xml-a", "xml:a", "_xml", "XML1", "ml", "axml", "lmx", "xmm", "xll", "mml"):
            self.assert_everywhere(f"<?{name}?>", f"<?{name}?>")

    def test_a_space_or_the_end_behind_the_name(self):
        for instruction in ("<?p??>", "<?p/?>", "<?p=1?>", "<?p'q'?>", "<?p<?>", "<?p\u00a0q?>"):
            self.assert_nowhere(instruction)

    def test_its_signs(self):
        for instruction in ("<? p?>", "<??>", "<?1?>", "<?p>", "<?p", "<?p ", "<?p q", "<?p q>", "<?p q?", "<?p q? >"):
            self.assert_nowhere(instruction)

    def test_not_within_a_tag(self):
        self.assert_no_document("<a <?p?>/>")
        self.assert_told("<a b='?>'/>", '<a b="?>"></a>')
        self.assert_no_document("<a b='<?p?>'/>")


class References(FormTest):
    def assert_content(self, reference, told):
        self.assert_told(f"<a>{reference}</a>", f"<a>{told}</a>")

    def assert_none(self, *references):
        for reference in references:
            self.assert_no_document(f"<a>{reference}</a>")
            self.assert_no_document(f"<a b='{reference}'/>")

    def test_the_five(self):
        self.assert_content("&amp;&lt;&gt;&quot;&apos;", "&amp;&lt;&gt;\"'")

    def test_no_other_names(self):
        self.assert_none("&AMP;", "&Lt;", "&nbsp;", "&a;", "&ampx;", "&am;", "&;", "&amp.;", "&quo;", "&apo;", "&l;")

    def test_decimal(self):
        self.assert_content("&#65;&#233;&#8364;&#65536;&#1114111;", "A\u00e9\u20ac\U00010000\U0010ffff")
        self.assert_content("&#0120;", "x")
        self.assert_content("&#57;&#48;", "90")

    def test_hexadecimal_in_either_case(self):
        self.assert_content("&#x41;&#xe9;&#xE9;&#x20aC;&#x10FfFf;", "A\u00e9\u00e9\u20ac\U0010ffff")
        self.assert_content("&#xabcd;&#xABCD;&#xef01;&#xEF01;", "\uabcd\uabcd\uef01\uef01")
        self.assert_content("&#x2345;&#x6789;", "\u2345\u6789")

    def test_zeros_in_front(self):
        self.assert_content("&#" + "0" * 5000 + "65;", "A")
        self.assert_content("&#x" + "0" * 5000 + "41;", "A")

    def test_a_huge_number(self):
        self.assert_none("&#" + "9" * 8000 + ";", "&#x" + "F" * 8000 + ";", "&#4294967361;", "&#x100000041;")

    def test_digits_alone(self):
        self.assert_none(
            "&#;", "&#x;", "&#X41;", "&#a;", "&#41a;", "&#4A;", "&#x4g;", "&#x4G;", "&#xg;", "&#xG;", "&#x4:;", "&#x4@;", "&#x4`;", "&#6/;", "&#6:;",
            "&#-65;", "&#+65;", "&# 65;", "&#65 ;", "&#x 41;", "&#6_5;", "&#x0x41;", "&#\u0661;", "&##65;", "&x41;",
        )

    def test_its_end(self):
        self.assert_none("&amp", "&#65", "&#x41", "&amp ;", "&amp:", "& amp;", "&")

    def test_characters_alone(self):
        self.assert_none("&#0;", "&#x0;", "&#8;", "&#11;", "&#31;", "&#55296;", "&#57343;", "&#65534;", "&#65535;", "&#1114112;")

    def test_9_10_and_13_stand_as_they_are(self):
        self.assert_content("&#9;&#10;&#13;", "\t\n&#xD;")
        self.assert_content("&#13;&#10;", "&#xD;\n")

    def test_what_stands_for_a_sign_is_none(self):
        self.assert_content("&lt;b/&gt;", "&lt;b/&gt;")
        self.assert_content("&amp;amp;", "&amp;amp;")
        self.assert_content("&#38;lt;", "&amp;lt;")
        self.assert_content("&#60;!--x--&#62;", "&lt;!--x--&gt;")
