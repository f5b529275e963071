"""The calls: each answers a list of whole numbers, whose first is below 0 where it refuses."""

from oneform.characters import encoded
from oneform.faults import NoDocument, NoPart, NoPath, TooDeep
from oneform.grammar import read_document
from oneform.parts import part_characters
from oneform.paths import read_path

NO_PATH = -1
NO_DOCUMENT = -2
LONGER_THAN_MOST = -3
TOO_DEEP = -4
NO_PART = -5


def document_form(document):
    characters = []
    for instruction in document.before:
        characters.extend(instruction.told() + [10])
    for piece in document.pieces:
        characters.extend(piece.told())
    for instruction in document.behind:
        characters.extend([10] + instruction.told())
    return encoded(characters)


def text_form(text):
    return document_form(read_document(text))


def answer(most, told):
    if len(told) > most:
        return [LONGER_THAN_MOST]
    return [len(told)] + told


def form(most, text):
    try:
        told = text_form(text)
    except NoDocument:
        return [NO_DOCUMENT]
    except TooDeep:
        return [TOO_DEEP]
    return answer(most, told)


def same(a, b):
    try:
        # All of a is read ahead of b, so that whatever fault a has comes first.
        form_of_a = text_form(a)
        form_of_b = text_form(b)
    except NoDocument:
        return [NO_DOCUMENT]
    except TooDeep:
        return [TOO_DEEP]
    return [1 if form_of_a == form_of_b else 0]


def part(most, text, path):
    try:
        # All of the path is read ahead of the text, so that its fault comes first.
        way = read_path(path)
        told = encoded(part_characters(read_document(text), way))
    except NoPath:
        return [NO_PATH]
    except NoDocument:
        return [NO_DOCUMENT]
    except TooDeep:
        return [TOO_DEEP]
    except NoPart:
        return [NO_PART]
    return answer(most, told)
