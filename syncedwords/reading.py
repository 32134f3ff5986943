"""The texts of codes and books, read."""

from syncedwords.codes import MOST_STRING_LETTERS, MOST_WORDS
from syncedwords.errors import BadValue, TextError
from syncedwords.parses import joined
from syncedwords.scanning import check_text, scan
from syncedwords.writing import MOST_PARSES

# What can come at the places of the grammars: in a code, among the words of a book, and behind its colon.
COMING = {
    "code": ("a word", "the end"),
    "book": ("a word", '":"'),
    "parses": ("a number", '";"', "the end"),
}
KINDS = ("code", "book")
TOLD = {"word": "a word", "number": "a number", "end": "the end"}


def told(token):
    """Return the words by which it is told that such a token can come."""
    kind, characters, _ = token
    if kind == "sign":
        return '"' + characters + '"'
    return TOLD[kind]


def expected(coming):
    """Return the words of the problem that none of what can come is there."""
    # At each place of both grammars at least two kinds of tokens can come.
    return "expected " + ", ".join(coming[:-1]) + " or " + coming[-1]


def coming_behind(tokens, kind):
    """Return what can come behind the tokens; raise TextError at the first one that cannot come at its place."""
    place = kind
    for token in tokens:
        if told(token) not in COMING[place]:
            raise TextError(token[2], expected(COMING[place]))
        if token[1] == ":":
            place = "parses"
    return COMING[place]


def next_tokens(text, kind):
    """Return the list of what can come behind the tokens of the text."""
    check_text(text)
    if kind not in KINDS:
        raise BadValue("kind")
    return list(coming_behind(scan(text)[:-1], kind))


def tokens_of(text, kind):
    """List the tokens of a text that follows the grammar; raise TextError for others."""
    tokens = scan(text)
    coming_behind(tokens, kind)
    return tokens


def code_of_tokens(tokens):
    """Return the code of the words among the tokens."""
    words = []
    for kind, characters, column in tokens:
        if kind == "word":
            if len(words) == MOST_WORDS:
                raise TextError(column, "there are at most 6 words")
            if characters in words:
                raise TextError(column, "this word stands already")
            words.append(characters)
    return tuple(words)


def longer_parse(code, parse, token):
    """Return the parse with the number of the token behind it."""
    number = int(token[1])
    if number >= len(code):
        raise TextError(token[2], "there is no such word")
    longer = parse + (number,)
    if len(joined(code, longer)) > MOST_STRING_LETTERS:
        raise TextError(token[2], "a string has at most 24 letters")
    return longer


def parses_of_tokens(code, tokens):
    """Return the parses of the numbers among the tokens."""
    parses = [()]
    for token in tokens:
        if token[0] == "number":
            parses[-1] = longer_parse(code, parses[-1], token)
        elif token[1] == ";":
            if len(parses) == MOST_PARSES:
                raise TextError(token[2], "there are at most 6 parses")
            parses.append(())
    return tuple(parses)


def read_code(text):
    """Return the code of which this is the text."""
    return code_of_tokens(tokens_of(text, "code"))


def read_book(text):
    """Return the book of which this is the text."""
    tokens = tokens_of(text, "book")
    # All words stand ahead of all numbers, so the problems of words come first.
    code = code_of_tokens(tokens)
    return code, parses_of_tokens(code, tokens)
