"""Lists of words and patterns, read from a text."""

from wordgaps.tokens import ListFault, read_tokens

MOST_BYTES = 4096
MOST_WORDS = 24
MOST_PATTERNS = 40
MARGINS = ("0", "1", "2", "3", "4", "5")


class Word:
    """A word's letters, and the gaps where it may be parted, the least first."""

    def __init__(self, letters, breaks):
        self.letters = letters
        self.breaks = breaks


class WordList:
    """A list that is right: its margins, its words and its patterns."""

    def __init__(self, left, right, words, patterns):
        self.left = left
        self.right = right
        self.words = words
        self.patterns = patterns


def read_list(text):
    """The list that a text tells; raises ListFault if it is none that is right."""
    if len(text) > MOST_BYTES:
        raise ListFault(1, MOST_BYTES)
    tokens = read_tokens(text)
    need_signs(tokens, 0, "margins")
    left = read_margin(tokens, 1)
    right = read_margin(tokens, 2)
    need_signs(tokens, 3, ";")
    words = []
    patterns = []
    at = 4
    while tokens[at][1] != "":
        place, signs = tokens[at]
        if signs == "word" and len(patterns) == 0:
            words.append(read_word(tokens, at, words))
        elif signs == "pattern":
            patterns.append(read_pattern(tokens, at, patterns))
        else:
            raise ListFault(3, place)
        need_signs(tokens, at + 2, ";")
        at += 3
    return WordList(left, right, words, patterns)


def need_signs(tokens, at, signs):
    """Raises a fault if the token is another one than it has to be."""
    if tokens[at][1] != signs:
        raise ListFault(3, tokens[at][0])


def need_chunk(tokens, at):
    """The token, which has to be a chunk of any kind."""
    place, signs = tokens[at]
    if signs in ("", ";"):
        raise ListFault(3, place)
    return (place, signs)


def read_margin(tokens, at):
    """The margin that a token tells."""
    place, chunk = need_chunk(tokens, at)
    if chunk not in MARGINS:
        raise ListFault(7, place)
    return int(chunk)


def read_word(tokens, at, earlier):
    """The word told by the chunk behind the token; earlier are the words before it."""
    if len(earlier) == MOST_WORDS:
        raise ListFault(4, tokens[at][0])
    place, chunk = need_chunk(tokens, at + 1)
    word = parse_word(chunk)
    if word is None:
        raise ListFault(7, place)
    if word.letters in [other.letters for other in earlier]:
        raise ListFault(5, place)
    return word


def parse_word(chunk):
    """The word that a chunk tells, or None if the chunk is not as a word's has to be."""
    parts = chunk.split("-")
    letters = "".join(parts)
    if not 2 <= len(letters) <= 16:
        return None
    ends = []
    before = 0
    for part in parts:
        if not part.isalpha():
            return None
        before += len(part)
        ends.append(before)
    # The last part ends where the word ends, and that is no break.
    return Word(letters, ends[:-1])


def read_pattern(tokens, at, earlier):
    """The pattern told by the chunk behind the token; earlier are the patterns before it."""
    if len(earlier) == MOST_PATTERNS:
        raise ListFault(4, tokens[at][0])
    place, chunk = need_chunk(tokens, at + 1)
    pattern = parse_pattern(chunk)
    if pattern is None:
        raise ListFault(7, place)
    if pattern in earlier:
        raise ListFault(5, place)
    return pattern


def parse_pattern(chunk):
    """A pattern's letters, and whether it has the first and the last point; None if it is not as told.

    No call asks for a listed pattern's digits, so they are looked at here and not kept.
    """
    first = chunk.startswith(".")
    inner = chunk[1:] if first else chunk
    last = inner.endswith(".")
    inner = inner[:-1] if last else inner
    letters = read_pattern_letters(inner)
    # As many signs as letters: then there is no digit.
    if not 1 <= len(letters) <= 6 or len(letters) == len(inner):
        return None
    return (letters, first, last)


def read_pattern_letters(inner):
    """The letters between a pattern's points; empty if there is a sign that can't stand where it does."""
    letters = []
    digit_before = False
    for sign in inner:
        if sign.isalpha():
            letters.append(sign)
            digit_before = False
        elif sign.isdigit() and sign != "0" and not digit_before:
            digit_before = True
        else:
            return ""
    return "".join(letters)
