"""Texts as lists of tokens, and places in texts (points 10 to 12)."""

from ontoworks.errors import FaultyText

BLANKS = " \n"
SIGNS = "();,:"
LETTERS = "abcdefghijklmnopqrstuvwxyzABCDEFGHIJKLMNOPQRSTUVWXYZ_"
DIGITS = "0123456789"
LONGEST_WORD = 20
RESERVED = (
    "concept", "role", "individual", "axiom", "below", "equals", "apart", "domain", "range", "under", "inverse",
    "is", "and", "or", "not", "some", "all", "anything", "nothing", "never",
)


def place(text, at):
    """Return the pair (line, column) of an index of a text."""
    before = text[:at]
    return before.count("\n") + 1, at - before.rfind("\n")


def is_name(word):
    """Tell whether a string is a name: a word that is not reserved."""
    end = _word_end(word, 0)
    return 0 < end <= LONGEST_WORD and end == len(word) and word not in RESERVED


def split_tokens(text):
    """Return the tokens of a text, a tuple of triples (kind, word, index)."""
    tokens = []
    at = 0
    while at < len(text):
        if text[at] in BLANKS:
            at += 1
        elif text[at] == "#":
            at = _comment_end(text, at)
        elif text[at] in SIGNS:
            tokens.append(("sign", text[at], at))
            at += 1
        else:
            word = _word_at(text, at)
            tokens.append(("word", word, at))
            at += len(word)
    tokens.append(("end", "", len(text)))
    return tuple(tokens)


def _comment_end(text, at):
    """Return the index of the line feed behind a comment, or the length of the text."""
    end = text.find("\n", at)
    return len(text) if end < 0 else end


def _word_at(text, at):
    """Return the word that begins at an index; raise FaultyText if none does, or if it is too long."""
    end = _word_end(text, at)
    if end == at or end - at > LONGEST_WORD:
        line, column = place(text, at)
        raise FaultyText(line, column, "unknown character")
    return text[at:end]


def _word_end(text, at):
    """Return the index behind the word that begins at an index, or that index if none begins there."""
    if at == len(text) or text[at] not in LETTERS:
        return at
    end = at + 1
    while end < len(text) and (text[end] in LETTERS or text[end] in DIGITS):
        end += 1
    return end
