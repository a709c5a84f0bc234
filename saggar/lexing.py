"""Lexing: a source is split into tokens."""

from saggar.errors import Malformed, Oversized

LONGEST_SOURCE = 4000
LONGEST_NAME = 32
MOST_DIGITS = 9
BLANKS = " \n"
LETTERS = "abcdefghijklmnopqrstuvwxyzABCDEFGHIJKLMNOPQRSTUVWXYZ"
DIGITS = "0123456789"
SIGNS = "+-*/<>=~&,@"
MARKS = ":^.|()[]"


def tokens_of(source):
    """Returns the list of the tokens (place, kind, value) of a source."""
    if len(source) > LONGEST_SOURCE:
        raise Oversized("source")
    tokens = []
    at = skipped(source, 0)
    while at < len(source):
        kind, value, end = token_at(source, at)
        tokens.append((at, kind, value))
        at = skipped(source, end)
    return tokens


def is_name(text):
    """Returns True if a string is a name."""
    return text != "" and name_end(text, 0) == len(text)


def is_keywords(text):
    """Returns True if a string consists of keywords."""
    return text != "" and keywords_end(text, 0) == len(text)


def arity(selector):
    """Returns the number of arguments of a selector."""
    if is_binary(selector):
        return 1
    return selector.count(":")


def is_binary(selector):
    """Returns True if a selector begins like a sign."""
    return selector != "" and selector[0] in SIGNS


def skipped(source, at):
    """Returns the first place from one on that is neither blank nor comment."""
    while at < len(source):
        if source[at] == '"':
            end = source.find('"', at + 1)
            if end < 0:
                raise Malformed(at)
            at = end + 1
        elif source[at] in BLANKS:
            at = at + 1
        else:
            return at
    return at


def token_at(source, at):
    """Returns the kind, the value and the end of the token at a place."""
    first = source[at]
    if first in LETTERS:
        return named(source, at)
    if first in DIGITS:
        return numbered(source, at)
    if first == "#":
        return hashed(source, at)
    if first == "'":
        return quoted(source, at)
    if first in SIGNS:
        return signed(source, at)
    if source[at:at + 2] == ":=":
        return "mark", ":=", at + 2
    if first in MARKS:
        return "mark", first, at + 1
    raise Malformed(at)


def named(source, at):
    """Reads a name or a keyword."""
    end = name_end(source, at)
    if end == at:
        raise Malformed(at)
    if keyword_end(source, at) > at:
        return "keyword", source[at:end + 1], end + 1
    return "name", source[at:end], end


def numbered(source, at):
    """Reads a number."""
    end = letters_end(source, at)
    digits = source[at:end]
    if not digits.isdigit() or len(digits) > MOST_DIGITS:
        raise Malformed(at)
    if digits[0] == "0" and digits != "0":
        raise Malformed(at)
    return "number", int(digits), end


def hashed(source, at):
    """Reads a symbol behind the hash sign at a place."""
    first = at + 1
    end = keywords_end(source, first)
    if end == first:
        end = name_end(source, first)
    if end == first:
        raise Malformed(at)
    return "symbol", source[first:end], end


def quoted(source, at):
    """Reads a quoted text."""
    end = source.find("'", at + 1)
    # Two quotes side by side stand for one; the text goes on behind them.
    while end >= 0 and source[end + 1:end + 2] == "'":
        end = source.find("'", end + 2)
    if end < 0:
        raise Malformed(at)
    return "symbol", source[at + 1:end].replace("''", "'"), end + 1


def signed(source, at):
    """Reads a sign of one or two characters."""
    end = at + 1
    if end < len(source) and source[end] in SIGNS:
        end = end + 1
    return "sign", source[at:end], end


def letters_end(source, at):
    """Returns the place behind the letters and digits from a place on."""
    while at < len(source) and (source[at] in LETTERS or source[at] in DIGITS):
        at = at + 1
    return at


def name_end(source, at):
    """Returns the place behind the name at a place, which itself if none."""
    if at >= len(source) or source[at] not in LETTERS:
        return at
    end = letters_end(source, at)
    if end - at > LONGEST_NAME:
        return at
    return end


def keyword_end(source, at):
    """Returns the place behind the keyword at a place, which itself if none."""
    end = name_end(source, at)
    if end > at and source[end:end + 1] == ":" and source[end + 1:end + 2] != "=":
        return end + 1
    return at


def keywords_end(source, at):
    """Returns the place behind all keywords from a place on."""
    end = keyword_end(source, at)
    while end > at:
        at = end
        end = keyword_end(source, at)
    return at
