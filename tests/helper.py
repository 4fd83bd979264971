"""How the tests call the program, and a second, plainer reading of the document to hold its answers against."""

import itertools
import random
import re

from wordgaps.gaps import answers

WORKED = "margins 1 1 ; word a-ba ; word ca-ba ; word dab-a ;"
HUGE = 10 ** 18


def load(text):
    """The numbers of a load call; the text is Python's text or a list of bytes."""
    codes = list(text.encode("latin-1")) if isinstance(text, str) else text
    return [0, len(codes)] + codes


def conflicts(n):
    return [1, n]


def leftout(n):
    return [2, n]


def evidence(i, g, m):
    return [3, i, g, m]


def doubts(m):
    return [4, m]


def keptout(m, i):
    return [5, m, i]


def cross(m):
    return [6, m]


def ask(*calls):
    """The answers to these calls on one object, each as a list."""
    told = answers([number for call in calls for number in call])
    split = []
    while told:
        split.append(told[1:1 + told[0]])
        told = told[1 + told[0]:]
    assert len(split) == len(calls), (split, calls)
    return split


def ask_of(text, *calls):
    """The answers to these calls behind a load that has to be right."""
    split = ask(load(text), *calls)
    assert split[0][0] == 1, (text, split[0])
    return split[1:]


def list_text(words, left=1, right=1):
    return f"margins {left} {right} ;" + "".join(f" word {word} ;" for word in words)


def piece_text(piece):
    """The chunk of one of the program's pieces."""
    part, before, first, last = piece
    return ("." if first else "") + part[:before] + "1" + part[before:] + ("." if last else "")


# A second reading: lists are told as (left, right, words), words as they stand in the text.


def letters_of(word):
    return word.replace("-", "")


def breaks_of(word):
    return [len(letters_of(word[:at])) for at, sign in enumerate(word) if sign == "-"]


def plain_spots(left, right, words):
    return [(i, g) for i, word in enumerate(words) for g in range(len(letters_of(word)) + 1)
            if 1 <= g <= len(letters_of(word)) - 1 and g >= left and len(letters_of(word)) - g >= right]


def plain_alike(words, n, one, other):
    """Both sides told letter by letter from the gap outward, with a mark where the word ends within n letters."""
    def sides(spot):
        letters = letters_of(words[spot[0]])
        before, behind = letters[:spot[1]][::-1], letters[spot[1]:]
        return [list(side[:n]) + (["all"] if len(side) <= n else []) for side in (before, behind)]
    return sides(one) == sides(other)


def plain_contradictions(left, right, words, n):
    spots = plain_spots(left, right, words)
    may = [spot for spot in spots if spot[1] in breaks_of(words[spot[0]])]
    return [(one, other) for one in spots if one in may for other in spots if other not in may
            if plain_alike(words, n, one, other)]


def plain_conflicts(left, right, words, n):
    found = plain_contradictions(left, right, words, n)
    return [len(found)] + ([*found[0][0], *found[0][1]] if found else [])


def plain_leftout(left, right, words, n):
    """Fewest first; of as many, the one whose row of without (0) and with (1) from word 0 on is the least."""
    found = plain_contradictions(left, right, words, n)
    rows = sorted(itertools.product((0, 1), repeat=len(words)), key=lambda row: (sum(row), row))
    for row in rows:
        if all(row[one[0]] or row[other[0]] for one, other in found):
            return [sum(row)] + [i for i, left_out in enumerate(row) if left_out]


def pattern_gaps(pattern, letters):
    """The gaps of the letters where the pattern, told as a chunk, has its digits: a list of (gap, digit)."""
    core = pattern.strip(".")
    only = "".join(sign for sign in core if sign.isalpha())
    found = []
    for place in range(len(letters) - len(only) + 1):
        if letters[place:place + len(only)] != only:
            continue
        if pattern.startswith(".") and place > 0:
            continue
        if pattern.endswith(".") and place + len(only) < len(letters):
            continue
        gap = place
        for sign in core:
            if sign.isdigit():
                found.append((gap, int(sign)))
            else:
                gap += 1
    return found


def plain_levels(patterns, letters):
    levels = [0] * (len(letters) + 1)
    for pattern in patterns:
        for gap, digit in pattern_gaps(pattern, letters):
            levels[gap] = max(levels[gap], digit)
    return levels


def plain_pieces(letters, gap, m):
    """Every piece with up to m letters, made from all there could be, that stands with its 1 at the gap."""
    signs = sorted(set(letters))
    pieces = one_digit_patterns(signs, m)
    return [piece for piece in pieces if (gap, 1) in pattern_gaps(piece, letters)]


def one_digit_patterns(signs, most):
    """Every pattern with the one digit 1 and up to so many letters of these."""
    return [first + "".join(part[:at]) + "1" + "".join(part[at:]) + last
            for size in range(1, most + 1) for part in itertools.product(signs, repeat=size)
            for at in range(size + 1) for first in ("", ".") for last in ("", ".")]


def plain_evidence(left, right, words, spot, m):
    says = [0, 0]
    for piece in plain_pieces(letters_of(words[spot[0]]), spot[1], m):
        for other in plain_spots(left, right, words):
            if other[0] != spot[0] and (other[1], 1) in pattern_gaps(piece, letters_of(words[other[0]])):
                says[0 if other[1] in breaks_of(words[other[0]]) else 1] += 1
    return [1 if spot[1] in breaks_of(words[spot[0]]) else 0] + says


def plain_doubts(left, right, words, m):
    found = []
    for spot in plain_spots(left, right, words):
        may, says_for, says_against = plain_evidence(left, right, words, spot, m)
        more = says_against - says_for if may else says_for - says_against
        if more > 0:
            found.append((-more, spot))
    return [len(found)] + [number for more, spot in sorted(found) for number in (*spot, -more)]


def plain_goals(left, right, words):
    return [spot for spot in plain_spots(left, right, words) if spot[1] in breaks_of(words[spot[0]])]


def plain_parted(left, right, words, patterns):
    """The gaps where these patterns, told as chunks, part the words."""
    return [spot for spot in plain_spots(left, right, words)
            if plain_levels(patterns, letters_of(words[spot[0]]))[spot[1]] % 2 == 1]


def plain_family(left, right, words, m):
    """The good pieces as chunks, each with the goals that it covers."""
    goals = plain_goals(left, right, words)
    family = []
    for number, gap in goals:
        letters = letters_of(words[number])
        for size in range(1, m + 1):
            for start in range(max(0, gap - size), min(gap, len(letters) - size) + 1):
                bare = letters[start:gap] + "1" + letters[gap:start + size]
                for chunk in (bare, "." + bare, bare + ".", "." + bare + "."):
                    covers = plain_parted(left, right, words, [chunk])
                    stands = (gap, 1) in pattern_gaps(chunk, letters)
                    if stands and all(spot in goals for spot in covers) and (chunk, covers) not in family:
                        family.append((chunk, covers))
    return family


def plain_used(family):
    kinds = []
    for chunk, covers in family:
        if covers not in kinds:
            kinds.append(covers)
    return [(min([chunk for chunk, other in family if other == covers], key=len), covers) for covers in kinds]


def plain_rows(left_over, used, count):
    """Every row of just so many used pieces, each of which covers the lowest goal left over, that covers all."""
    if not left_over or count == 0:
        return [[]] if not left_over and count == 0 else []
    return [[chunk] + rest for chunk, covers in used if left_over[0] in covers
            for rest in plain_rows([goal for goal in left_over if goal not in covers], used, count - 1)]


def plain_least_set(left, right, words, m):
    """The least set as chunks, None if there is none: all rows of the fewest pieces, and the first of the shortest."""
    goals = plain_goals(left, right, words)
    used = plain_used(plain_family(left, right, words, m))
    if not all(any(goal in covers for chunk, covers in used) for goal in goals):
        return None
    for count in range(len(goals) + 1):
        rows = plain_rows(goals, used, count)
        if rows:
            return min(rows, key=lambda row: len("".join(row)))


def plain_keptout(left, right, words, m, i):
    others = words[:i] + words[i + 1:]
    if len(plain_goals(left, right, others)) > 9:
        return [-6]
    chosen = plain_least_set(left, right, others, m)
    if chosen is None:
        return [0]
    parted = plain_parted(left, right, [words[i]], chosen)
    goals = plain_goals(left, right, [words[i]])
    hits = len([spot for spot in parted if spot in goals])
    return [1, hits, len(parted) - hits, len(goals) - hits]


def plain_cross(left, right, words, m):
    if len(words) > 6 or len(plain_goals(left, right, words)) > 9:
        return [-6]
    each = [plain_keptout(left, right, words, m, i) for i in range(len(words))]
    told = [answer[1:] for answer in each if answer[0] == 1]
    return [len([held for held in told if held[1:] == [0, 0]]), len(told)] + [sum(held[k] for held in told)
                                                                              for k in range(3)]


def plain_load(text):
    """What load answers, by one regular expression for tokens and a table of what may follow what."""
    if len(text) > 4096:
        return [0, 1, 4096]
    tokens = []
    at = 0
    for found in re.finditer(r"(?:[ \t\n]|#[^\n]*)*([a-z0-9.-]+|;|\Z|.)", text, re.DOTALL):
        token = found.group(1)
        if len(token) > 40 or token and not re.fullmatch(r"[a-z0-9.-]+|;", token):
            return [0, 2, found.start(1)]
        tokens.append((found.start(1), token))
        if not token:
            break
    return plain_parse(tokens)


def plain_parse(tokens):
    word_form = r"[a-z](-?[a-z])*"
    pattern_form = r"\.?[1-9]?([a-z][1-9]?)+\.?"
    wanted = ["margins", "L", "R", ";"]
    known = {"word": [], "pattern": []}
    kind = None
    for place, token in tokens:
        want = wanted.pop(0) if wanted else "head"
        if want == "head":
            if token == "":
                return [1, len(known["word"]), len(known["pattern"])]
            if token not in known or token == "word" and known["pattern"]:
                return [0, 3, place]
            if len(known[token]) == {"word": 24, "pattern": 40}[token]:
                return [0, 4, place]
            kind = token
            wanted = ["item", ";"]
        elif want in ("margins", ";"):
            if token != want:
                return [0, 3, place]
        elif token in ("", ";"):
            return [0, 3, place]
        elif want in ("L", "R"):
            if not re.fullmatch("[0-5]", token):
                return [0, 7, place]
        else:
            bare = re.sub("[-0-9]", "", token)
            size = len(bare.replace(".", ""))
            if kind == "word" and not (re.fullmatch(word_form, token) and 2 <= size <= 16):
                return [0, 7, place]
            if kind == "pattern" and not (re.fullmatch(pattern_form, token) and 1 <= size <= 6
                                          and re.search("[1-9]", token)):
                return [0, 7, place]
            if bare in known[kind]:
                return [0, 5, place]
            known[kind].append(bare)


def made_lists(seed, count, signs="ab", most_words=7, sizes=(2, 7)):
    """Lists (left, right, words) made from a seed, always the same ones."""
    source = random.Random(seed)
    lists = []
    for turn in range(count):
        words = {}
        for word in range(source.randint(0, most_words)):
            letters = [source.choice(signs) for letter in range(source.randint(*sizes))]
            if "".join(letters) not in words:
                words["".join(letters)] = "".join(
                    ("-" if at and source.random() < 0.4 else "") + sign for at, sign in enumerate(letters))
        lists.append((source.choice((0, 1, 1, 2, 3)), source.choice((0, 1, 1, 2, 3)), list(words.values())))
    return lists
