"""Points 7 to 9: the one form, the refusals and which comes first."""

from tests.helper import PLENTY, FormTest, answered, nested


class OneForm(FormTest):
    def test_byte_by_byte(self):
        self.assert_told(
            "<?xml version='1.0'?>\r\n<!-- c -->\r\n<?p  q ?>\r\n"
            "<r b='2' a=\"1\"\r\n  c='&quot;&#9;'>\r\n<e/>&#x20AC;<![CDATA[a<b]]><?i?></r>\r\n<?z?><!-- d -->",
            b'<?p q ?>\n<r a="1" b="2" c="&quot;&#x9;">\n<e></e>\xe2\x82\xaca&lt;b<?i?></r>\n<?z?>',
        )

    def test_order_of_attributes(self):
        self.assert_told("<a z='1' y='2' x='3'/>", '<a x="3" y="2" z="1"></a>')
        self.assert_told("<a b='1' a='2' _='3' Z='4' :='5'/>", '<a :="5" Z="4" _="3" a="2" b="1"></a>')
        self.assert_told("<a xmlns='1' a='2' xml:b='3'/>", '<a a="2" xml:b="3" xmlns="1"></a>')

    def test_a_beginning_comes_first(self):
        self.assert_told("<a abc='1' ab='2' a='3' b='4'/>", '<a a="3" ab="2" abc="1" b="4"></a>')
        self.assert_told("<a a.='1' a-='2' a1='3' aA='4' a='5'/>", '<a a="5" a-="2" a.="1" a1="3" aA="4"></a>')

    def test_order_is_by_the_numbers_of_characters(self):
        self.assert_told(
            "<a \U00010000='1' \ufffd='2' \u00e9='3' z='4' \ud7ff='5'/>",
            '<a z="4" \u00e9="3" \ud7ff="5" \ufffd="2" \U00010000="1"></a>',
        )

    def test_in_values(self):
        self.assert_told(
            "<a b='&amp;&lt;&gt;&quot;&apos;&#9;&#10;&#13;&#32;>\"'/>",
            '<a b="&amp;&lt;>&quot;\'&#x9;&#xA;&#xD; >&quot;"></a>',
        )

    def test_in_content(self):
        self.assert_told(
            "<a>&amp;&lt;&gt;&quot;&apos;&#9;&#10;&#13;&#32;>\"'\t\n</a>",
            "<a>&amp;&lt;&gt;\"'\t\n&#xD; &gt;\"'\t\n</a>",
        )

    def test_instructions(self):
        self.assert_told("<?p?><?q r?><a><?s?><?t u?></a><?v?><?w x?>",
                         "<?p?>\n<?q r?>\n<a><?s?><?t u?></a>\n<?v?>\n<?w x?>")

    def test_nothing_else_stands_outside(self):
        self.assert_told("\n\n<!-- 1 -->\n<a/>\n\n<!-- 2 -->\n", "<a></a>")

    def test_all_that_are_the_same(self):
        texts = (
            "<a b=\"1\" c=\"'\">x&lt;&#233;\n</a>",
            "<a c='&apos;' b='1'>x&#60;\u00e9\n</a>",
            "<?xml version='1.0' standalone='no'?>\n<a\tb = '&#49;' c='&#x27;' ><![CDATA[x<\u00e9]]>\r\n</a >\n",
            "<!--1--><a c=\"'\"\nb=\"1\"><!--2-->x<![CDATA[<]]>&#xE9;<!--3-->\r</a><!--4-->",
        )
        for text in texts:
            self.assert_told(text, '<a b="1" c="\'">x&lt;\u00e9\n</a>')

    def test_a_form_is_its_own_form(self):
        told = answered("<?p?><a d='&#10;\"' c='\t'>&#13;<b/><![CDATA[]]]]>&gt;\r\n<?q  r?></a><?s?>")
        self.assertEqual(told, b'<?p?>\n<a c=" " d="&#xA;&quot;">&#xD;<b></b>]]&gt;\n<?q r?></a>\n<?s?>')
        self.assert_told(told, told)


class Most(FormTest):
    def assert_answer(self, text, most, expected):
        with self.subTest(text=text, most=most):
            self.assertEqual(answered(text, most), expected)

    def test_exactly_and_one_byte_more(self):
        self.assert_answer("<a/>", 7, b"<a></a>")
        self.assert_answer("<a/>", 8, b"<a></a>")
        self.assert_answer("<a/>", 6, -3)

    def test_bytes_are_counted_not_characters(self):
        self.assert_answer("<a>\u20ac</a>", 10, "<a>\u20ac</a>".encode())
        self.assert_answer("<a>\u20ac</a>", 9, -3)
        self.assert_answer("<a>\U00010000</a>", 11, "<a>\U00010000</a>".encode())
        self.assert_answer("<a>\U00010000</a>", 10, -3)

    def test_the_form_counts_not_the_text(self):
        self.assert_answer("<!-- long, but not in the form --><a/>", 7, b"<a></a>")
        self.assert_answer("<a>></a>", 10, -3)
        self.assert_answer("<a>></a>", 11, b"<a>&gt;</a>")

    def test_0_and_below(self):
        for most in (0, -1, -2, -7, -2147483648):
            self.assert_answer("<a/>", most, -3)

    def test_the_greatest(self):
        self.assert_answer("<a/>", PLENTY, b"<a></a>")


class Sizes(FormTest):
    def test_an_empty_text(self):
        self.assert_no_document(b"")

    def test_a_text_of_8192_bytes(self):
        text = "<a>" + "x" * 8185 + "</a>"
        self.assertEqual(len(text), 8192)
        self.assert_told(text, text)

    def test_8192_bytes_of_what_grows_most(self):
        text = "<a b='" + '"' * 8183 + "'/>"
        self.assertEqual(len(text), 8192)
        self.assert_told(text, '<a b="' + "&quot;" * 8183 + '"></a>')

    def test_8192_bytes_of_one_thing(self):
        self.assert_told(" " * 8188 + "<a/>", "<a></a>")
        self.assert_told("<!---->" * 1169 + "<a/>", "<a></a>")
        self.assert_told("<?p?>" * 1637 + "<a/>", "<?p?>\n" * 1637 + "<a></a>")
        self.assert_told("<a>" + "<b/>" * 2046 + "</a>", "<a>" + "<b></b>" * 2046 + "</a>")
        self.assert_told("<a>" + "&lt;" * 2046 + "</a>", "<a>" + "&lt;" * 2046 + "</a>")
        self.assert_told("<" + "a" * 8189 + "/>", "<" + "a" * 8189 + "></" + "a" * 8189 + ">")

    def test_8192_bytes_that_are_no_document(self):
        for piece in ("<", ">", "&", "x", "]", "-", "<a ", "<!--", "<?p ", "\r"):
            self.assert_no_document((piece * 8192)[:8192])


class Depth(FormTest):
    def assert_refused(self, text, refusal, most=PLENTY):
        with self.subTest(text=text, most=most):
            self.assertEqual(answered(text, most), refusal)

    def test_64_in_one_another(self):
        self.assert_told(nested(64), nested(64))
        self.assert_told(nested(63, "<b/>"), nested(63, "<b></b>"))

    def test_65_in_one_another(self):
        self.assert_refused(nested(65), -4)
        self.assert_refused(nested(64, "<b/>"), -4)
        self.assert_refused(nested(64, "x<b/>x"), -4)

    def test_beside_one_another_is_not_within(self):
        many = "<b></b>" * 100
        self.assert_told("<a>" + many + "</a>", "<a>" + many + "</a>")
        twice = nested(63) + nested(63)
        self.assert_told("<b>" + twice + "</b>", "<b>" + twice + "</b>")
        self.assert_refused("<b>" + nested(64) + "<c/></b>", -4)
        self.assert_refused("<b><c/>" + nested(64) + "</b>", -4)

    def test_as_deep_as_a_text_can_be(self):
        self.assert_refused(nested(1170), -4)
        self.assert_refused("<a>" * 2730, -2)


class WhichComesFirst(FormTest):
    def assert_answer(self, text, most, expected):
        with self.subTest(text=text, most=most):
            self.assertEqual(answered(text, most), expected)

    def test_no_document_before_too_deep(self):
        for fault in ("&x;", "]]>", "<b></c>", "<b c='' c=''/>", "\u0000", "<!-- -- -->", "<?xml?>"):
            self.assert_answer(nested(65, fault), PLENTY, -2)
        self.assert_answer(nested(65)[:-1], PLENTY, -2)
        self.assert_answer(nested(65) + "x", PLENTY, -2)
        self.assert_answer(nested(65) + "<b/>", PLENTY, -2)
        self.assert_answer("x" + nested(65), PLENTY, -2)
        self.assert_answer(nested(65).encode() + b"\xff", PLENTY, -2)

    def test_no_document_before_longer_than_most(self):
        for most in (0, -1, -2147483648, 3):
            self.assert_answer("", most, -2)
            self.assert_answer("<a>", most, -2)
            self.assert_answer("<a></a>x", most, -2)

    def test_too_deep_before_longer_than_most(self):
        for most in (0, -1, -2147483648, 454):
            self.assert_answer(nested(65), most, -4)
        self.assert_answer(nested(64), 447, -3)
        self.assert_answer(nested(64), 448, nested(64).encode())
