"""The tokens of a text, which is a list of bytes."""

BLANKS = (32, 9, 10)
LINE_END = 10
REMARK = 35
SEMICOLON = 59
LETTERS = "abcdefghijklmnopqrstuvwxyz"
DIGITS = "0123456789"
MOST_CHUNK_BYTES = 40


class ListFault(ValueError):
    """A text is no list that is right: the fault's code and its place."""

    def __init__(self, code, place):
        self.code = code
        self.place = place


def read_tokens(text):
    """The tokens, each as its place and its signs; the text's end is the last one, without signs."""
    tokens = []
    place = skip_blanks(text, 0)
    while place < len(text):
        signs = read_token(text, place)
        tokens.append((place, signs))
        place = skip_blanks(text, place + len(signs))
    tokens.append((place, ""))
    return tokens


def skip_blanks(text, place):
    """The first place, from this one on, where neither a blank nor a remark begins."""
    while place < len(text) and (text[place] in BLANKS or text[place] == REMARK):
        if text[place] == REMARK:
            place = find_remark_end(text, place)
        else:
            place += 1
    return place


def find_remark_end(text, place):
    """The place of the next line end, or the text's end."""
    while place < len(text) and text[place] != LINE_END:
        place += 1
    return place


def read_token(text, place):
    """The signs of the token that begins at this place."""
    if text[place] == SEMICOLON:
        return ";"
    chunk = read_chunk(text, place)
    if not 1 <= len(chunk) <= MOST_CHUNK_BYTES:
        raise ListFault(2, place)
    return chunk


def read_chunk(text, place):
    """The signs of a chunk from this place on, as far as they go; empty if none begins here."""
    signs = []
    while place < len(text):
        sign = find_chunk_sign(text[place])
        if sign == "":
            break
        signs.append(sign)
        place += 1
    return "".join(signs)


def find_chunk_sign(byte):
    """The sign that a byte stands for in a chunk; empty if it can't stand there."""
    if 97 <= byte <= 122:
        return LETTERS[byte - 97]
    if 48 <= byte <= 57:
        return DIGITS[byte - 48]
    if byte == 45:
        return "-"
    if byte == 46:
        return "."
    return ""
