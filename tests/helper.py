"""What the tests share: asking a list of calls, and the document's words worked out another way.

Here a world is a tuple of truth values and a claim a set of such tuples, so that
a slip in the program's arithmetic isn't made here too.
"""

from itertools import product

from lettersgone.claims import answers

BEGIN, PUT, SET, DROP, FORGET, KEEP, UNDER, LETTERS, WITHOUT, SAYS, ALIKE, MORE = range(12)
LARGEST = 4294967295


def flat(calls):
    return [number for call in calls for number in call]


def split(told):
    """The answers one by one, out of the list that is given back."""
    apart = []
    place = 0
    while place < len(told):
        after = place + 1 + told[place]
        if told[place] < 1 or after > len(told):
            raise AssertionError(f"not a row of answers: {told}")
        apart.append(told[place + 1:after])
        place = after
    return apart


def ask(*calls):
    handed_in = flat(calls)
    if not 1 <= len(calls) <= 60 or len(handed_in) > 240:
        raise AssertionError("such a list is never handed in")
    told = split(answers(handed_in))
    if len(told) != len(calls):
        raise AssertionError(f"{len(calls)} calls, {len(told)} answers")
    return told


def about(m, claims, *calls):
    """What the calls answer, with m letters and these claims here."""
    ahead = [(BEGIN, m)] + [(PUT, claim) for claim in claims]
    told = ask(*ahead, *calls)
    if told[:len(ahead)] != [[0]] + [[number] for number in range(len(claims))]:
        raise AssertionError(f"begin or put is refused: {told}")
    return told[len(ahead):]


def one(m, claims, *call):
    return about(m, claims, call)[0]


def world_number(world):
    return sum(2 ** letter for letter, so in enumerate(world) if so)


def claim_number(worlds):
    return sum(2 ** world_number(world) for world in worlds)


def all_worlds(m):
    return set(product((False, True), repeat=m))


def worlds_in(m, claim):
    return {world for world in all_worlds(m) if claim // 2 ** world_number(world) % 2 == 1}


def letters_in(m, s):
    return [letter for letter in range(m) if s // 2 ** letter % 2 == 1]


def alike_worlds(world, letters):
    """All worlds that are alike with this one, but for those letters."""
    return set(product(*[(False, True) if k in letters else (so,) for k, so in enumerate(world)]))


def forgotten_by_words(m, claim, s):
    left = set()
    for world in worlds_in(m, claim):
        left |= alike_worlds(world, letters_in(m, s))
    return claim_number(left)


def under_by_words(m, claim, s):
    so = worlds_in(m, claim)
    return claim_number(w for w in all_worlds(m) if alike_worlds(w, letters_in(m, s)) <= so)


def kept_by_words(m, claim, s):
    return forgotten_by_words(m, claim, 2 ** m - 1 - s)


def letters_by_words(m, claim):
    return [k for k in range(m) if forgotten_by_words(m, claim, 2 ** k) != claim]


def follows_by_words(m, first, second):
    return worlds_in(m, first) <= worlds_in(m, second)


def some_claims(m):
    """All claims with up to three letters; with four a spread of them, and the ends."""
    if m < 4:
        return list(range(2 ** 2 ** m))
    return [0, 1, 32768, 65534, 65535, 43690, 52428, 61680, 65280] + list(range(7, 65536, 331))
