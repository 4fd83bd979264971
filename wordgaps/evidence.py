"""What the other words say of a spot, and the spots that are doubted."""

from wordgaps.pieces import find_pieces_around, map_pieces
from wordgaps.spots import find_spots, may_part


def weigh_evidence(wordlist, spot, length):
    """The evidence for parting at a spot, and that against it, by pieces up to a length."""
    return weigh_by_pieces(wordlist, spot, length, map_pieces(wordlist, length))


def weigh_by_pieces(wordlist, spot, length, spots_by_piece):
    """The evidence for and against, with the pieces of the whole list told."""
    number, gap = spot
    evidence_for = 0
    evidence_against = 0
    for piece in find_pieces_around(wordlist.words[number].letters, gap, length):
        for other in spots_by_piece[piece]:
            if other[0] != number:
                if may_part(wordlist, other):
                    evidence_for += 1
                else:
                    evidence_against += 1
    return (evidence_for, evidence_against)


def find_doubts(wordlist, length):
    """The doubted spots, each with by how much, those doubted most first."""
    # All spots ask the same pieces, so these are mapped once.
    spots_by_piece = map_pieces(wordlist, length)
    doubts = []
    for spot in find_spots(wordlist):
        evidence_for, evidence_against = weigh_by_pieces(wordlist, spot, length, spots_by_piece)
        more = evidence_against - evidence_for
        if not may_part(wordlist, spot):
            more = evidence_for - evidence_against
        if more > 0:
            doubts.append((spot, more))
    # Those doubted alike stay in the order of the spots.
    return sorted(doubts, key=lambda doubt: doubt[1], reverse=True)
