"""Point 2: names."""

from tests.helper import FormTest

BEGINNINGS = (
    (0x3A, 0x3A), (0x41, 0x5A), (0x5F, 0x5F), (0x61, 0x7A), (0xC0, 0xD6), (0xD8, 0xF6), (0xF8, 0x2FF),
    (0x370, 0x37D), (0x37F, 0x1FFF), (0x200C, 0x200D), (0x2070, 0x218F), (0x2C00, 0x2FEF), (0x3001, 0xD7FF),
    (0xF900, 0xFDCF), (0xFDF0, 0xFFFD), (0x10000, 0xEFFFF),
)
OTHERS = ((0x2D, 0x2E), (0x30, 0x39), (0xB7, 0xB7), (0x300, 0x36F), (0x203F, 0x2040))
ALL_EDGES = {edge + step for pair in BEGINNINGS + OTHERS for edge in pair for step in (-1, 0, 1)}
# What's no character at all stands in test_characters.
EDGES = sorted(edge for edge in ALL_EDGES if not 0xD800 <= edge <= 0xDFFF and edge not in (0xFFFE, 0xFFFF))
# These go on behind a name in ways of their own.
SIGNS = (0x2F, 0x3E)


def within(number, ranges):
    return any(first <= number <= last for first, last in ranges)


class NameEdges(FormTest):
    def test_first_character(self):
        for number in EDGES:
            name = chr(number)
            if within(number, BEGINNINGS):
                self.assert_told(f"<{name}/>", f"<{name}></{name}>")
            else:
                self.assert_no_document(f"<{name}/>")

    def test_characters_behind_it(self):
        for number in EDGES:
            name = "a" + chr(number)
            if within(number, BEGINNINGS + OTHERS):
                self.assert_told(f"<{name}/>", f"<{name}></{name}>")
            elif number not in SIGNS:
                self.assert_no_document(f"<{name}/>")

    def test_names_of_attributes(self):
        for number in EDGES:
            name = chr(number)
            if within(number, BEGINNINGS):
                self.assert_told(f"<a {name}='1'/>", f'<a {name}="1"></a>')
            elif number not in SIGNS:
                self.assert_no_document(f"<a {name}='1'/>")

    def test_names_of_instructions(self):
        for number in EDGES:
            name = chr(number)
            if within(number, BEGINNINGS):
                self.assert_told(f"<a><?{name}?></a>", f"<a><?{name}?></a>")
            else:
                self.assert_no_document(f"<a><?{name}?></a>")

    def test_the_edges_in_references_are_characters_of_content(self):
        escapes = {0x26: "&amp;", 0x3C: "&lt;", 0x3E: "&gt;"}
        for number in EDGES:
            told = escapes.get(number, chr(number))
            self.assert_told(f"<a>&#{number};&#x{number:X};</a>", f"<a>{told}{told}</a>")

    def test_f0000_and_above_stand_in_no_name(self):
        for number in (0xF0000, 0x100000, 0x10FFFF):
            self.assert_no_document(f"<a{chr(number)}/>")

    def test_no_reference_stands_in_a_name(self):
        self.assert_no_document("<&#97;/>")
        self.assert_no_document("<a&#97;/>")
        self.assert_no_document("<a b&#97;='1'/>")


class NamesInAll(FormTest):
    def test_a_name_is_as_long_as_it_can_be(self):
        self.assert_told("<a.b-c:d_1\u00b7/>", "<a.b-c:d_1\u00b7></a.b-c:d_1\u00b7>")
        self.assert_no_document("<ab></a>")
        self.assert_no_document("<a></ab>")
        self.assert_no_document("<ab></a b>")

    def test_colons_are_like_letters(self):
        self.assert_told("<:/>", "<:></:>")
        self.assert_told("<a:b:c :='1'/>", '<a:b:c :="1"></a:b:c>')

    def test_there_is_a_name(self):
        self.assert_no_document("<>")
        self.assert_no_document("<></>")
        self.assert_no_document("</>")
        self.assert_no_document("< a/>")
        self.assert_no_document("<a ='1'/>")
        self.assert_no_document("<? p?><a/>")
        self.assert_no_document("<??><a/>")

    def test_case_counts(self):
        self.assert_no_document("<a></A>")
        self.assert_told("<a b='1' B='2'/>", '<a B="2" b="1"></a>')

    def test_names_of_elements_and_attributes_may_be_xml(self):
        self.assert_told("<xml xml='1' XML='2'/>", '<xml XML="2" xml="1"></xml>')
