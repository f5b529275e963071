"""Characters, as whole numbers: from bytes and to bytes in UTF-8, and which of them may stand where."""

from oneform.faults import NoDocument

SPACES = (32, 9, 10)

# Ranges: pairs of a first and a last character.
CHARACTERS = ((9, 10), (13, 13), (0x20, 0xD7FF), (0xE000, 0xFFFD), (0x10000, 0x10FFFF))
NAME_BEGINNINGS = (
    (58, 58), (65, 90), (95, 95), (97, 122), (0xC0, 0xD6), (0xD8, 0xF6), (0xF8, 0x2FF), (0x370, 0x37D),
    (0x37F, 0x1FFF), (0x200C, 0x200D), (0x2070, 0x218F), (0x2C00, 0x2FEF), (0x3001, 0xD7FF),
    (0xF900, 0xFDCF), (0xFDF0, 0xFFFD), (0x10000, 0xEFFFF),
)
NAME_OTHERS = ((45, 46), (48, 57), (0xB7, 0xB7), (0x300, 0x36F), (0x203F, 0x2040))

# By a character's length in bytes: what its first byte begins at, and the least number that needs that length.
FIRST_BYTES = (0, 0, 0xC0, 0xE0, 0xF0)
LEAST_NUMBERS = (0, 0, 0x80, 0x800, 0x10000)


def codes(sign):
    return [ord(letter) for letter in sign]


def within(character, ranges):
    for first, last in ranges:
        if first <= character <= last:
            return True
    return False


def is_character(number):
    return within(number, CHARACTERS)


def is_space(character):
    return character in SPACES


def begins_name(character):
    return within(character, NAME_BEGINNINGS)


def stands_in_name(character):
    return begins_name(character) or within(character, NAME_OTHERS)


def character_length(first_byte):
    if first_byte < 0x80:
        return 1
    if 0xC0 <= first_byte <= 0xDF:
        return 2
    if 0xE0 <= first_byte <= 0xEF:
        return 3
    if 0xF0 <= first_byte <= 0xF7:
        return 4
    raise NoDocument()


def character_number(group, length):
    if len(group) < length:
        raise NoDocument()
    number = group[0] - FIRST_BYTES[length]
    for byte in group[1:]:
        if not 0x80 <= byte <= 0xBF:
            raise NoDocument()
        number = number * 64 + byte - 0x80
    if number < LEAST_NUMBERS[length] or not is_character(number):
        raise NoDocument()
    return number


def decoded(text):
    characters = []
    at = 0
    while at < len(text):
        length = character_length(text[at])
        characters.append(character_number(text[at:at + length], length))
        at += length
    return characters


def with_plain_line_ends(characters):
    plain = []
    for at, character in enumerate(characters):
        if character == 13:
            plain.append(10)
        elif character != 10 or at == 0 or characters[at - 1] != 13:
            plain.append(character)
    return plain


def character_bytes(number):
    if number < 0x80:
        return [number]
    length = 2
    while length < 4 and number >= LEAST_NUMBERS[length + 1]:
        length += 1
    last_first = []
    for place in range(length - 1):
        last_first.append(0x80 + number % 64)
        number = number // 64
    last_first.append(FIRST_BYTES[length] + number)
    return list(reversed(last_first))


def encoded(characters):
    told = []
    for character in characters:
        told.extend(character_bytes(character))
    return told
