"""Spots that look alike from both sides, contradictions, and the words that have to be left out."""

from wordgaps.spots import find_spots, may_part


def look_around(letters, gap, length):
    """What a gap looks like up to a length: two spots are alike if they look the same."""
    before = letters[max(0, gap - length):gap]
    behind = letters[gap:gap + length]
    return (before, gap <= length, behind, len(letters) - gap <= length)


def find_contradictions(wordlist, length):
    """The contradictions up to a length, each as its two spots, by the first one, then by the second."""
    parted = []
    unparted_by_look = {}
    for spot in find_spots(wordlist):
        look = look_around(wordlist.words[spot[0]].letters, spot[1], length)
        if may_part(wordlist, spot):
            parted.append((spot, look))
        else:
            unparted_by_look.setdefault(look, []).append(spot)
    found = []
    for first, look in parted:
        for second in unparted_by_look.get(look, []):
            found.append((first, second))
    return found


def find_left_out(wordlist, length):
    """The fewest words that have a part in every contradiction up to a length."""
    pairs = sorted(set([(first[0], second[0]) for first, second in find_contradictions(wordlist, length)]))
    fitting = [chosen for chosen in list_word_sets(len(wordlist.words)) if touches_all(chosen, pairs)]
    # Of several as short ones min takes the first.
    return min(fitting, key=len)


def list_word_sets(count):
    """Every set of so many words, compared from word 0 on: without a word before with it."""
    found = [[]]
    for number in range(count):
        longer = []
        for chosen in found:
            longer.append(chosen)
            longer.append(chosen + [number])
        found = longer
    return found


def touches_all(chosen, pairs):
    """Whether each pair of words has one of the chosen ones."""
    for first, second in pairs:
        if first not in chosen and second not in chosen:
            return False
    return True
