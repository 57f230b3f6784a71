"""The document as it is told, in bytes.

Objects may stand deeper within one another than calls may: what is still to be told lies on a stack of pieces,
each a list of bytes, or an object's id, which is a tuple.
"""

from keptbymany.bytenumbers import from_little_endian, with_sign
from keptbymany.identities import ROOT
from keptbymany.refusals import TOO_LONG, WRONG
from keptbymany.valuekinds import LIST, MAP, NUMBER, is_object_kind

QUOTE = 34
HASH = 35
COMMA = 44
COLON = 58
LIST_BEGINS = 91
BACKSLASH = 92
LIST_ENDS = 93
MAP_BEGINS = 123
MAP_ENDS = 125


def do_tell(keeper, most):
    if most < 0:
        return [WRONG]
    told = tell_document(keeper.document)
    if len(told) > most:
        return [TOO_LONG]
    return [len(told)] + told


def tell_document(document):
    told = []
    to_tell = [ROOT]
    while to_tell:
        piece = to_tell.pop()
        if isinstance(piece, tuple):
            to_tell.extend(list(reversed(pieces_of(document, piece))))
        else:
            told.extend(piece)
    return told


def pieces_of(document, target):
    kind = document.kind_of(target)
    if kind == MAP:
        return pieces_of_map(document.map_entries(target))
    if kind == LIST:
        return pieces_of_list(document.list_entries(target))
    return [[HASH] + told_decimal(document.sum_of(target))]


def pieces_of_map(entries):
    pieces = [[MAP_BEGINS]]
    comma = []
    for key, entry in entries:
        pieces.append(comma + told_text(key) + [COLON])
        pieces.append(piece_of_entry(entry))
        comma = [COMMA]
    pieces.append([MAP_ENDS])
    return pieces


def pieces_of_list(entries):
    pieces = [[LIST_BEGINS]]
    comma = []
    for entry in entries:
        pieces.append(comma)
        pieces.append(piece_of_entry(entry))
        comma = [COMMA]
    pieces.append([LIST_ENDS])
    return pieces


# An object has the id of the act that brought it.
def piece_of_entry(entry):
    value = entry[1]
    if is_object_kind(value[0]):
        return entry[0]
    if value[0] == NUMBER:
        return told_decimal(with_sign(from_little_endian(value[1:])))
    return told_text(value[2:])


def told_decimal(number):
    return [ord(sign) for sign in str(number)]


def told_text(content):
    told = [QUOTE]
    for byte in content:
        if byte == QUOTE or byte == BACKSLASH:
            told.append(BACKSLASH)
        told.append(byte)
    told.append(QUOTE)
    return told
