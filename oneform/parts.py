"""Parts: what stands in a document where a path leads to."""

from oneform.faults import NoPart
from oneform.pieces import Characters, End, Start


def chosen_element(row, step):
    depth = 0
    left = step.number
    start = 0
    for at, piece in enumerate(row):
        if isinstance(piece, Start):
            if depth == 0 and piece.name == step.name:
                left -= 1
                start = at
            depth += 1
        elif isinstance(piece, End):
            depth -= 1
            if depth == 0 and left == 0:
                return row[start:at + 1]
    raise NoPart()


def element_at(pieces, steps):
    element = chosen_element(pieces, steps[0])
    for step in steps[1:]:
        # Between its start and its end: what stands directly in it is outermost there.
        element = chosen_element(element[1:-1], step)
    return element


def attribute_value(start, name):
    if name not in start.attributes:
        raise NoPart()
    return start.attributes[name]


def element_characters(element):
    characters = []
    for piece in element:
        if isinstance(piece, Characters):
            characters.extend(piece.characters)
    return characters


def part_characters(document, path):
    element = element_at(document.pieces, path.steps)
    if path.attribute is None:
        return element_characters(element)
    return attribute_value(element[0], path.attribute)
