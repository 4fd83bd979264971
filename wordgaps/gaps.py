"""The interface: the calls on one object, one behind another."""

from wordgaps.alike import find_contradictions, find_left_out
from wordgaps.evidence import find_doubts, weigh_evidence
from wordgaps.keptout import keep_out, keep_out_each, leave_word_out
from wordgaps.spots import find_goals, find_spots, may_part
from wordgaps.tokens import ListFault
from wordgaps.wordlist import read_list

LOAD = 0
CONFLICTS = 1
LEFTOUT = 2
EVIDENCE = 3
DOUBTS = 4
KEPTOUT = 5
# How many numbers stand behind the number of each call but load.
ARGUMENTS = {1: 1, 2: 1, 3: 3, 4: 1, 5: 2, 6: 1}
MOST_WORDS_TO_LEAVE_OUT = 10
MOST_WORDS_TO_DOUBT = 10
MOST_WORDS_TO_CROSS = 6
MOST_GOALS = 9


class Holder:
    """Holds the list that was loaded last, or none."""

    def __init__(self):
        self.held = None

    def load(self, text):
        """Holds the text's list from now on, or tells its fault."""
        try:
            loaded = read_list(text)
        except ListFault as fault:
            return [0, fault.code, fault.place]
        self.held = loaded
        return [1, len(loaded.words), len(loaded.patterns)]


def answers(calls):
    """What the calls on a new object answer: for each one how many numbers, and these."""
    holder = Holder()
    told = []
    at = 0
    while at < len(calls):
        end = find_call_end(calls, at)
        answer = answer_call(holder, calls[at:end])
        told.append(len(answer))
        told.extend(answer)
        at = end
    return told


def find_call_end(calls, at):
    """Where the call that begins here ends."""
    if calls[at] == LOAD:
        return at + 2 + calls[at + 1]
    return at + 1 + ARGUMENTS[calls[at]]


def answer_call(holder, call):
    """The answer to one call: its numbers, or a refusal alone."""
    if call[0] == LOAD:
        return holder.load(call[2:])
    if holder.held is None:
        return [-1]
    if call[0] == CONFLICTS:
        return answer_conflicts(holder.held, call[1])
    if call[0] == LEFTOUT:
        return answer_leftout(holder.held, call[1])
    if call[0] == EVIDENCE:
        return answer_evidence(holder.held, (call[1], call[2]), call[3])
    if call[0] == DOUBTS:
        return answer_doubts(holder.held, call[1])
    if call[0] == KEPTOUT:
        return answer_keptout(holder.held, call[1], call[2])
    return answer_cross(holder.held, call[1])


def answer_conflicts(wordlist, n):
    """How many contradictions there are up to n, and the first one's two spots."""
    if not 0 <= n <= 6:
        return [-3]
    found = find_contradictions(wordlist, n)
    answer = [len(found)]
    if len(found) > 0:
        first, second = found[0]
        answer.extend([first[0], first[1], second[0], second[1]])
    return answer


def answer_leftout(wordlist, n):
    """How many words are left out up to n, and they."""
    if not 0 <= n <= 6:
        return [-3]
    if len(wordlist.words) > MOST_WORDS_TO_LEAVE_OUT:
        return [-6]
    chosen = find_left_out(wordlist, n)
    return [len(chosen)] + chosen


def answer_evidence(wordlist, spot, m):
    """Whether the word may be parted at the spot, and the evidence for and against."""
    if not 1 <= m <= 3:
        return [-3]
    if spot not in find_spots(wordlist):
        return [-2]
    evidence_for, evidence_against = weigh_evidence(wordlist, spot, m)
    return [1 if may_part(wordlist, spot) else 0, evidence_for, evidence_against]


def answer_doubts(wordlist, m):
    """How many spots are doubted, and each one and by how much."""
    if not 1 <= m <= 3:
        return [-3]
    if len(wordlist.words) > MOST_WORDS_TO_DOUBT:
        return [-6]
    doubts = find_doubts(wordlist, m)
    answer = [len(doubts)]
    for spot, more in doubts:
        answer.extend([spot[0], spot[1], more])
    return answer


def answer_keptout(wordlist, m, i):
    """1 and the hits, faults and misses of word i when it is kept out; 0 if the others have no least set."""
    if not 1 <= m <= 3:
        return [-3]
    if not 0 <= i < len(wordlist.words):
        return [-2]
    if len(find_goals(leave_word_out(wordlist, i))) > MOST_GOALS:
        return [-6]
    held = keep_out(wordlist, i, m)
    if held is None:
        return [0]
    return [1] + list(held)


def answer_cross(wordlist, m):
    """What is told of all words together, when each one is kept out once."""
    if not 1 <= m <= 3:
        return [-3]
    if len(wordlist.words) > MOST_WORDS_TO_CROSS or len(find_goals(wordlist)) > MOST_GOALS:
        return [-6]
    return keep_out_each(wordlist, m)
