"""Families of good pieces, and the least set of them that covers each goal."""

from wordgaps.pieces import count_bytes, find_pieces_around, map_pieces
from wordgaps.spots import find_goals, may_part


def find_least_set(wordlist, length):
    """The pieces of the least set of the family up to a length; None if there is none."""
    goals = find_goals(wordlist)
    used = []
    for spots, piece in find_used_pieces(find_family(wordlist, length)).items():
        used.append((piece, mark_goals(goals, spots)))
    everything = (1 << len(goals)) - 1
    together = 0
    for piece, marks in used:
        together |= marks
    if together != everything:
        return None
    # A piece only adds marks, so what is covered with it is a greater number and has been worked out before.
    least_sets = {everything: (0, 0, [])}
    for covered in range(everything - 1, -1, -1):
        least_sets[covered] = choose_set(used, covered, least_sets)
    return least_sets[0][2]


def find_family(wordlist, length):
    """The good pieces around goals up to a length, goal by goal, each as the piece and the goals that it covers."""
    spots_by_piece = map_pieces(wordlist, length)
    family = {}
    for number, gap in find_goals(wordlist):
        for piece in find_pieces_around(wordlist.words[number].letters, gap, length):
            spots = spots_by_piece[piece]
            # A piece that is there already stays where it came first.
            if all([may_part(wordlist, spot) for spot in spots]):
                family[piece] = tuple(spots)
    return family


def find_used_pieces(family):
    """For each tuple of goals that pieces of the family cover, the one piece that is used; in the pieces' order."""
    used = {}
    for piece, spots in family.items():
        # What is put in the place of another one stays where that one stood.
        if spots not in used or count_bytes(piece) < count_bytes(used[spots]):
            used[spots] = piece
    return used


def mark_goals(goals, spots):
    """A number with one bit for each goal among the spots, that of goal 0 the least."""
    marks = 0
    for number, goal in enumerate(goals):
        if goal in spots:
            marks |= 1 << number
    return marks


def choose_set(used, covered, least_sets):
    """The least set where these goals may be covered already: how many pieces, how many bytes, and the pieces."""
    # The lowest bit that is 0 stands for the lowest goal that is not covered yet.
    lowest = ~covered & (covered + 1)
    found = []
    for piece, marks in used:
        if marks & lowest:
            count, size, rest = least_sets[covered | marks]
            found.append((count + 1, size + count_bytes(piece), [piece] + rest))
    # Of several as little ones min takes the first.
    return min(found, key=lambda chosen: chosen[:2])
