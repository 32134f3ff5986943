"""The tokens of texts."""

from syncedwords.codes import LETTERS, MOST_WORD_LETTERS
from syncedwords.errors import BadValue, TextError

MOST_CHARACTERS = 500
MOST_DIGITS = 6
DIGITS = "0123456789"
SIGNS = ":;"
BLANK = " "


def check_text(text):
    """Raise BadValue if it is not a text."""
    if not isinstance(text, str) or len(text) > MOST_CHARACTERS or "\n" in text:
        raise BadValue("text")


def run_of(text, place, characters):
    """Return the characters of the text from the place on, as many as are among these ones."""
    end = place
    while end < len(text) and text[end] in characters:
        end += 1
    return text[place:end]


def token_at(text, place):
    """Return the token that begins at the place, where no blank is."""
    column = place + 1
    word = run_of(text, place, LETTERS)
    number = run_of(text, place, DIGITS)
    if len(word) > MOST_WORD_LETTERS:
        raise TextError(column, "a word has at most 5 letters")
    if len(number) > MOST_DIGITS:
        raise TextError(column, "a number has at most 6 digits")
    if len(word) > 0:
        return "word", word, column
    if len(number) > 0:
        return "number", number, column
    if text[place] not in SIGNS:
        raise TextError(column, "no token begins here")
    return "sign", text[place], column


def scan(text):
    """Return the list of the tokens of the text, each with its kind, its characters and its column."""
    check_text(text)
    tokens = []
    place = len(run_of(text, 0, BLANK))
    while place < len(text):
        token = token_at(text, place)
        tokens.append(token)
        place += len(token[1])
        place += len(run_of(text, place, BLANK))
    return tokens + [("end", "", len(text) + 1)]
