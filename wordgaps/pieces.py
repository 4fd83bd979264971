"""Pieces: patterns with the one digit 1.

A piece is a tuple: its letters, how many of them stand before the 1, and whether it has the first and the last point.
"""

from wordgaps.spots import find_spots


def find_pieces_around(letters, gap, length):
    """The pieces around a word's gap up to a length, in the order in which the document tells them."""
    pieces = []
    for size in range(1, length + 1):
        last_place = min(gap, len(letters) - size)
        for place in range(max(0, gap - size), last_place + 1):
            pieces.extend(point_pieces(letters, gap, place, place + size))
    return pieces


def point_pieces(letters, gap, place, end):
    """The pieces of the letters from a place to an end: without points, and with those that fit there."""
    part = letters[place:end]
    before = gap - place
    pieces = [(part, before, False, False)]
    if place == 0:
        pieces.append((part, before, True, False))
    if end == len(letters):
        pieces.append((part, before, False, True))
    if place == 0 and end == len(letters):
        pieces.append((part, before, True, True))
    return pieces


def count_bytes(piece):
    """How many bytes the piece's chunk has."""
    part, before, first, last = piece
    points = [point for point in (first, last) if point]
    return len(part) + 1 + len(points)


def map_pieces(wordlist, length):
    """Each piece up to a length around any spot of the list, with all spots that it is around, in their order.

    Around a spot are just the pieces that stand there with their 1, so these are the spots that a piece parts as the
    only pattern.
    """
    spots_by_piece = {}
    for spot in find_spots(wordlist):
        number, gap = spot
        for piece in find_pieces_around(wordlist.words[number].letters, gap, length):
            spots_by_piece.setdefault(piece, []).append(spot)
    return spots_by_piece
