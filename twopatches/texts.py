"""Texts: documents and effects as texts, and texts read as documents."""

from twopatches.documents import check
from twopatches.errors import BadText

MOST_DIGITS = 31
# As a number, since the rules for this program keep the sign itself out of strings.
PERCENT = 37


def document_text(document):
    """Return the text of a document."""
    check(document)
    return text_of(document)


def effect_text(one):
    """Return the text of an effect."""
    if one.kind in ("keep", "drop"):
        return one.kind
    if one.kind == "set":
        return "set " + atom_text(one.atom)
    return one.kind + " " + object_text([(key, effect_text(member)) for key, member in one.members])


def read_document(text):
    """Return the document of a text."""
    document, place = read_part(text, after_blanks(text, 0))
    end = after_blanks(text, place)
    if end < len(text):
        raise BadText(end)
    check(document)
    return document


def text_of(document):
    """Return the text of a document, which is not checked and may be larger."""
    if isinstance(document, dict):
        return object_text([(key, text_of(document[key])) for key in sorted(document)])
    return atom_text(document)


def object_text(pairs):
    """Return the text of an object from its keys and the texts of its members."""
    return "{" + ",".join([string_text(key) + ":" + text for key, text in pairs]) + "}"


def atom_text(atom):
    """Return the text of an atom, in which a list may be a tuple."""
    if isinstance(atom, (list, tuple)):
        return "[" + ",".join([atom_text(element) for element in atom]) + "]"
    if isinstance(atom, str):
        return string_text(atom)
    return "null" if atom is None else integer_text(atom)


def string_text(text):
    """Return a string in double quotes."""
    return '"' + text.replace("\\", "\\\\").replace('"', '\\"') + '"'


def integer_text(number):
    """Return the digits of an integer, with a minus before them if it is negative."""
    if number < 0:
        return "-" + integer_text(-number)
    # In groups of digits, since Python refuses to write integers of very many digits at once.
    groups = []
    while number >= 10 ** 64:
        number, rest = divmod(number, 10 ** 64)
        groups.append(str(rest).zfill(64))
    return str(number) + "".join(reversed(groups))


def sign_at(text, place):
    """Return the character at a place of a text, or an empty string at its end."""
    return text[place:place + 1]


def after_blanks(text, place):
    """Return the first place from this one on that has no blank."""
    while sign_at(text, place) == " ":
        place = place + 1
    return place


def read_part(text, place):
    """Return the document that begins at a place, and the place behind it."""
    if sign_at(text, place) == "{":
        return read_object(text, place)
    if sign_at(text, place) == "[":
        return read_list(text, place)
    return read_element(text, place)


def read_object(text, place):
    """Return the object whose brace stands at a place, and the place behind it."""
    members = {}
    place = after_blanks(text, place + 1)
    more = sign_at(text, place) != "}"
    while more:
        key, place = read_key(text, place, members)
        members[key], place = read_part(text, place)
        more, place = after_part(text, place, "}")
    return members, place + 1


def read_key(text, place, members):
    """Return the new key that begins at a place, and the place at which its member begins."""
    if sign_at(text, place) != '"':
        raise BadText(place)
    key, behind = read_string(text, place)
    if key in members:
        raise BadText(place)
    colon = after_blanks(text, behind)
    if sign_at(text, colon) != ":":
        raise BadText(colon)
    return key, after_blanks(text, colon + 1)


def read_list(text, place):
    """Return the list whose bracket stands at a place, and the place behind it."""
    found = []
    place = after_blanks(text, place + 1)
    more = sign_at(text, place) != "]"
    while more:
        element, place = read_element(text, place)
        found.append(element)
        more, place = after_part(text, place, "]")
    return found, place + 1


def after_part(text, place, closing):
    """Return whether a comma follows, and the place of the next part or else that of the closing sign."""
    place = after_blanks(text, place)
    if sign_at(text, place) == ",":
        return True, after_blanks(text, place + 1)
    if sign_at(text, place) != closing:
        raise BadText(place)
    return False, place


def read_element(text, place):
    """Return the None, the string or the integer that begins at a place, and the place behind it."""
    if sign_at(text, place) == "n":
        return read_null(text, place)
    if sign_at(text, place) == '"':
        return read_string(text, place)
    return read_integer(text, place)


def read_null(text, place):
    """Return None, and the place behind its text."""
    for letter in "null":
        if sign_at(text, place) != letter:
            raise BadText(place)
        place = place + 1
    return None, place


def read_string(text, place):
    """Return the string whose quote stands at a place, and the place behind it."""
    letters = []
    place = place + 1
    while sign_at(text, place) != '"':
        if sign_at(text, place) == "\\":
            place = place + 1
            if sign_at(text, place) not in ("\\", '"'):
                raise BadText(place)
        elif not is_letter(sign_at(text, place)):
            raise BadText(place)
        letters.append(sign_at(text, place))
        place = place + 1
    return "".join(letters), place + 1


def is_letter(sign):
    """Return whether a character, or an empty string at the end, may stand in a string."""
    return " " <= sign <= "~" and ord(sign) != PERCENT


def read_integer(text, place):
    """Return the integer that begins at a place, and the place behind it."""
    negative = sign_at(text, place) == "-"
    begin = place + 1 if negative else place
    if not is_digit(sign_at(text, begin)) or negative and sign_at(text, begin) == "0":
        raise BadText(begin)
    end = begin + 1
    # Another digit after a zero or after the most digits is left to the caller, to whom it is malformed.
    while sign_at(text, begin) != "0" and end < begin + MOST_DIGITS and is_digit(sign_at(text, end)):
        end = end + 1
    return int(text[place:end]), end


def is_digit(sign):
    """Return whether a character, or an empty string at the end, is a digit."""
    return "0" <= sign <= "9"
