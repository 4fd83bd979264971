"""What the other words say of a spot."""

from wordgaps.pieces import find_pieces_around, fits_at
from wordgaps.spots import find_spots, may_part


def weigh_evidence(wordlist, spot, length):
    """The evidence for parting at a spot, and that against it, by pieces up to a length."""
    number, gap = spot
    others = [other for other in find_spots(wordlist) if other[0] != number]
    evidence_for = 0
    evidence_against = 0
    for piece in find_pieces_around(wordlist.words[number].letters, gap, length):
        for other in others:
            if fits_at(piece, wordlist.words[other[0]].letters, other[1]):
                if may_part(wordlist, other):
                    evidence_for += 1
                else:
                    evidence_against += 1
    return (evidence_for, evidence_against)
