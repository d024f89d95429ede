"""The desk: a log that is told its commands as texts and answers with texts."""

from twopatches.changes import changed
from twopatches.compacting import compact, needless
from twopatches.effects import effect
from twopatches.errors import BadText, PatchError
from twopatches.logs import Log
from twopatches.texts import effect_text, read_document, read_integer, text_of


def begin_done(log, document):
    """Answer begin DOCUMENT."""
    log.begin(document)
    return ["done"]


def add_done(log, document):
    """Answer add DOCUMENT."""
    log.add(document)
    return ["done"]


def change_text(log, document):
    """Answer change DOCUMENT."""
    return [text_of(changed(log.now(), document))]


def squeeze_done(log, begin, end):
    """Answer squeeze N N."""
    log.squeeze(begin, end)
    return ["done"]


def at_text(log, time):
    """Answer at N."""
    return [text_of(log.at(time))]


def back_done(log):
    """Answer back."""
    log.back()
    return ["done"]


def row_texts(log):
    """Answer row."""
    return [text_of(patch) for patch in log.row()]


def first_text(log):
    """Answer first."""
    return [text_of(log.first())]


def now_text(log):
    """Answer now."""
    return [text_of(log.now())]


def effect_answer(log):
    """Answer effect."""
    return [effect_text(effect(log.row()))]


def compact_texts(log):
    """Answer compact."""
    return [text_of(patch) for patch in compact(log.row())]


def needless_text(log):
    """Answer needless."""
    places = [str(place) for place in needless(log.row())]
    return [" ".join(places) if places else "none"]


# The commands by what stands behind their word: nothing, a document, or this many numbers.
PLAIN = {
    "back": back_done, "row": row_texts, "first": first_text, "now": now_text,
    "effect": effect_answer, "compact": compact_texts, "needless": needless_text}
WITH_DOCUMENT = {"begin": begin_done, "add": add_done, "change": change_text}
WITH_NUMBERS = {"squeeze": squeeze_done, "at": at_text}
NUMBERS = {"squeeze": 2, "at": 1}


class Desk:
    """A log and its commands."""

    def __init__(self):
        self.log = Log()

    def tell(self, row):
        """Carry out a command and return its answer, a list of strings."""
        try:
            return answer(self.log, row)
        except PatchError as error:
            return [error.told()]


def answer(log, command):
    """Return the answer of a log to a command, which is parsed before anything else is checked."""
    if command in PLAIN:
        action = PLAIN[command]
        return action(log)
    word, _, rest = command.partition(" ")
    if word in WITH_DOCUMENT:
        action = WITH_DOCUMENT[word]
        return action(log, read_document(rest))
    if word in WITH_NUMBERS:
        action = WITH_NUMBERS[word]
        numbers = read_numbers(rest, NUMBERS[word])
        return action(log, *numbers)
    raise BadText(0)


def read_numbers(text, many):
    """Return so many numbers with one blank between two of them."""
    words = text.split(" ")
    if len(words) != many:
        raise BadText(0)
    return [read_number(word) for word in words]


def read_number(word):
    """Return the number that is a whole word."""
    number, place = read_integer(word, 0)
    if number < 0 or place < len(word):
        raise BadText(0)
    return number
