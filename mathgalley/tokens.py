"""Tokens of texts, and the names of symbols."""

LETTERS = "abcdefghijklmnopqrstuvwxyz"
SIGNS = "abcdefghijklmnopqrstuvwxyzABCDEFGHIJKLMNOPQRSTUVWXYZ0123456789+-*/=<>()[],;:!?.'"
MARKS = "{}^_&~"
RESERVED = ("@frac", "@root", "@left", "@right", "@grid")
MOST_LETTERS = 8

# Two marks in the place of a token; no token is equal to either of them.
END = "end"
BAD = "bad"


def is_command(word):
    """Whether word is @ and 1 to 8 letters, reserved or not."""
    letters = word[1:]
    if word[:1] != "@" or not 1 <= len(letters) <= MOST_LETTERS:
        return False
    return all([letter in LETTERS for letter in letters])


def is_symbol(word):
    """Whether word is the name of a symbol."""
    if len(word) == 1:
        return word in SIGNS
    return is_command(word) and word not in RESERVED


def tokens_of(text):
    """A list of pairs (place, token).

    The last pair has END with the length of the text, or BAD with the place of
    the first thing that is no token; what follows that is not divided.
    """
    found = []
    at = 0
    while at < len(text):
        if text[at] == " ":
            at += 1
        else:
            token = _token_at(text, at)
            found.append((at, token))
            if token == BAD:
                return found
            at += len(token)
    found.append((at, END))
    return found


def _token_at(text, at):
    first = text[at]
    if first == "@":
        return _command_at(text, at)
    return first if first in SIGNS or first in MARKS else BAD


def _command_at(text, at):
    end = at + 1
    while end < len(text) and text[end] in LETTERS:
        end += 1
    word = text[at:end]
    return word if is_command(word) else BAD
