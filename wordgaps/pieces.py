"""Pieces: patterns with the one digit 1.

A piece is a tuple: its letters, how many of them stand before the 1, and whether it has the first and the last point.
"""


def find_pieces_around(letters, gap, length):
    """The pieces around a word's gap up to a length, in the order in which the document tells them."""
    pieces = []
    for size in range(1, length + 1):
        last_place = min(gap, len(letters) - size)
        for place in range(max(0, gap - size), last_place + 1):
            pieces.extend(point_pieces(letters, gap, place, place + size))
    return pieces


def point_pieces(letters, gap, place, end):
    """The pieces of the letters from a place to an end: without points, and with those that fit there."""
    part = letters[place:end]
    before = gap - place
    pieces = [(part, before, False, False)]
    if place == 0:
        pieces.append((part, before, True, False))
    if end == len(letters):
        pieces.append((part, before, False, True))
    if place == 0 and end == len(letters):
        pieces.append((part, before, True, True))
    return pieces


def fits_at(piece, letters, gap):
    """Whether a piece fits in a word's letters with its 1 just at the gap."""
    part, before, first, last = piece
    place = gap - before
    end = place + len(part)
    if place < 0 or letters[place:end] != part:
        return False
    if first and place != 0:
        return False
    return end == len(letters) or not last
