"""Spots: the gaps of listed words within the margins, each as its word's number and its gap."""


def find_spots(wordlist):
    """The spots of a list, by words, then by gaps."""
    spots = []
    for number, word in enumerate(wordlist.words):
        size = len(word.letters)
        for gap in range(1, size):
            if gap >= wordlist.left and size - gap >= wordlist.right:
                spots.append((number, gap))
    return spots


def may_part(wordlist, spot):
    """Whether the spot's word may be parted there."""
    number, gap = spot
    return gap in wordlist.words[number].breaks


def find_goals(wordlist):
    """The spots that may be parted, in their order."""
    return [spot for spot in find_spots(wordlist) if may_part(wordlist, spot)]
