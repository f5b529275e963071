"""Documents: from a text's bytes to the pieces of a document, or to its fault.

No step calls itself, so that neither a deep nor a long text comes near Python's limit of calls.
"""

from oneform.characters import codes, decoded, is_character, is_space, with_plain_line_ends
from oneform.faults import NoDocument, TooDeep
from oneform.pieces import Characters, Document, End, Instruction, Start
from oneform.reader import Reader

DEEPEST = 64

REFERENCES = {"amp": 38, "lt": 60, "gt": 62, "quot": 34, "apos": 39}


def digit_number(digit, base):
    if 48 <= digit <= 57:
        return digit - 48
    if base == 16 and 65 <= digit <= 70:
        return digit - 55
    if base == 16 and 97 <= digit <= 102:
        return digit - 87
    raise NoDocument()


def referred_number(digits, base):
    number = 0
    for digit in digits:
        # The least number above all characters is enough: many digits would make a huge one.
        number = min(number * base + digit_number(digit, base), 0x110000)
    # Without a digit it's 0, which is no character.
    if not is_character(number):
        raise NoDocument()
    return number


def take_reference(reader):
    reader.take("&")
    body = reader.take_up_to(";")
    for name in REFERENCES:
        if body == codes(name):
            return REFERENCES[name]
    if body[:2] == codes("#x"):
        return referred_number(body[2:], 16)
    if body[:1] == codes("#"):
        return referred_number(body[1:], 10)
    raise NoDocument()


# The first -- ends what a comment holds, so one more - before its --> is a fault.
def take_comment(reader):
    reader.take("<!--")
    reader.take_up_to("--")
    reader.take(">")


def is_xml(name):
    return len(name) == 3 and name[0] in codes("xX") and name[1] in codes("mM") and name[2] in codes("lL")


def take_instruction(reader):
    reader.take("<?")
    name = reader.take_name()
    if is_xml(name):
        raise NoDocument()
    if reader.took("?>"):
        return Instruction(name, [])
    if not reader.took_spaces():
        raise NoDocument()
    return Instruction(name, reader.take_up_to("?>"))


def take_setting(reader, name, values):
    reader.take(name)
    reader.take_equals()
    quote = reader.take_quote()
    for value in values:
        if reader.took(value + quote):
            return
    raise NoDocument()


def take_declaration(reader):
    # Without a space behind it, xml is only the beginning of an instruction's name.
    if not (reader.stands("<?xml ") or reader.stands("<?xml\t") or reader.stands("<?xml\n")):
        return
    reader.take("<?xml")
    reader.took_spaces()
    take_setting(reader, "version", ("1.0",))
    spaced = reader.took_spaces()
    if spaced and reader.stands("encoding"):
        take_setting(reader, "encoding", ("UTF-8", "utf-8"))
        spaced = reader.took_spaces()
    if spaced and reader.stands("standalone"):
        take_setting(reader, "standalone", ("yes", "no"))
        reader.took_spaces()
    reader.take("?>")


def take_outside(reader):
    instructions = []
    while True:
        if reader.stands("<!--"):
            take_comment(reader)
        elif reader.stands("<?"):
            instructions.append(take_instruction(reader))
        elif not reader.took_spaces():
            return instructions


def take_value(reader):
    quote = reader.take_quote()
    value = []
    while not reader.took(quote):
        if reader.stands("<"):
            raise NoDocument()
        if reader.stands("&"):
            value.append(take_reference(reader))
        else:
            character = reader.take_character()
            value.append(32 if is_space(character) else character)
    return value


def take_attributes(reader):
    attributes = {}
    while True:
        spaced = reader.took_spaces()
        if reader.stands(">") or reader.stands("/>"):
            return attributes
        if not spaced:
            raise NoDocument()
        name = reader.take_name()
        if name in attributes:
            raise NoDocument()
        reader.take_equals()
        attributes[name] = take_value(reader)


def take_characters(reader):
    start = reader.at
    while not (reader.stands("<") or reader.stands("&")):
        if reader.stands("]]>"):
            raise NoDocument()
        # At the text's end this refuses: content ends only where its element does.
        reader.take_character()
    return reader.characters[start:reader.at]


def take_start(reader, pieces, around):
    reader.take("<")
    name = reader.take_name()
    pieces.append(Start(name, take_attributes(reader)))
    if reader.took("/>"):
        pieces.append(End(name))
    else:
        reader.take(">")
        around.append(name)


def take_end(reader, pieces, around):
    reader.take("</")
    name = reader.take_name()
    if name != around.pop():
        raise NoDocument()
    reader.took_spaces()
    reader.take(">")
    pieces.append(End(name))


def take_element(reader):
    pieces = []
    # The names of the elements that aren't ended yet.
    around = []
    take_start(reader, pieces, around)
    while around:
        if reader.stands("</"):
            take_end(reader, pieces, around)
        elif reader.stands("<!--"):
            take_comment(reader)
        elif reader.took("<![CDATA["):
            pieces.append(Characters(reader.take_up_to("]]>")))
        elif reader.stands("<?"):
            pieces.append(take_instruction(reader))
        elif reader.stands("<"):
            take_start(reader, pieces, around)
        elif reader.stands("&"):
            pieces.append(Characters([take_reference(reader)]))
        else:
            pieces.append(Characters(take_characters(reader)))
    return pieces


def depth(pieces):
    now = 0
    deepest = 0
    for piece in pieces:
        if isinstance(piece, Start):
            now += 1
            deepest = max(deepest, now)
        elif isinstance(piece, End):
            now -= 1
    return deepest


def read_document(text):
    reader = Reader(with_plain_line_ends(decoded(text)))
    take_declaration(reader)
    before = take_outside(reader)
    pieces = take_element(reader)
    behind = take_outside(reader)
    if not reader.ended():
        raise NoDocument()
    # Only now: a text that is too deep must be a document in all else.
    if depth(pieces) > DEEPEST:
        raise TooDeep()
    return Document(before, pieces, behind)
