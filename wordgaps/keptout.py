"""Words that are kept out, and parted by what is learned from the others."""

from wordgaps.leastset import find_least_set
from wordgaps.pieces import find_pieces_around
from wordgaps.spots import find_spots, may_part
from wordgaps.wordlist import WordList


def leave_word_out(wordlist, number):
    """The list without one word."""
    words = [word for other, word in enumerate(wordlist.words) if other != number]
    return WordList(wordlist.left, wordlist.right, words, wordlist.patterns)


def keep_out(wordlist, number, length):
    """A kept out word's hits, faults and misses; None if the others have no least set."""
    chosen = find_least_set(leave_word_out(wordlist, number), length)
    if chosen is None:
        return None
    hits = 0
    faults = 0
    misses = 0
    for spot in find_spots(wordlist):
        if spot[0] == number:
            parted = is_parted(wordlist.words[number].letters, spot[1], chosen, length)
            if parted and may_part(wordlist, spot):
                hits += 1
            elif parted:
                faults += 1
            elif may_part(wordlist, spot):
                misses += 1
    return (hits, faults, misses)


def is_parted(letters, gap, chosen, length):
    """Whether one of the pieces, which have up to so many letters, stands with its 1 at the gap."""
    return any([piece in chosen for piece in find_pieces_around(letters, gap, length)])


def keep_out_each(wordlist, length):
    """How many words are without fault and miss when they are kept out, how many could be told of, and all their hits,
    faults and misses."""
    exact = 0
    told = 0
    total = [0, 0, 0]
    for number in range(len(wordlist.words)):
        held = keep_out(wordlist, number, length)
        if held is not None:
            told += 1
            if held[1] == 0 and held[2] == 0:
                exact += 1
            total = [have + more for have, more in zip(total, held)]
    return [exact, told] + total
