"""What the tests share: asking a list of calls, and the document's words worked out another way.

Here a world is a tuple of truth values and a claim a set of such tuples, so that
a slip in the program's arithmetic isn't made here too.
"""

from itertools import product

from lettersgone.claims import answers

BEGIN, PUT, SET, DROP, FORGET, KEEP, UNDER, LETTERS, WITHOUT, SAYS, ALIKE, MORE = range(12)
LOST, SETTLES, FOLLOWS, ENOUGH, LEAST, TOGETHER, BOTH, EITHER, NOT, WORLDS, LOOK, STATE = range(12, 24)
LARGEST = 4294967295

# The calls that change nothing, by what they are given.
OF_ONE = (LETTERS, SETTLES, NOT, WORLDS, LOOK)
OF_ONE_AND_LETTERS = (FORGET, KEEP, UNDER, WITHOUT, SAYS, LOST)
OF_TWO = (FOLLOWS, LEAST, BOTH, EITHER)
OF_TWO_AND_LETTERS = (ALIKE, MORE, ENOUGH, TOGETHER)

# The letters themselves as claims: by how many letters there are, then by letter.
LETTER = {1: (2,), 2: (10, 12), 3: (170, 204, 240), 4: (43690, 52428, 61680, 65280)}
# Of two letters, the second follows by the first.
ONE_BY_OTHER = 13
# Most of three letters; of four, the first two or the last two.
MOST = 232
PAIRS = 63624


def flat(calls):
    return [number for call in calls for number in call]


def split(told):
    """The answers one by one, out of the list that is given back."""
    apart = []
    place = 0
    while place < len(told):
        after = place + 1 + told[place]
        if told[place] < 1 or after > len(told):
            raise AssertionError(f"not a row of answers: {told}")
        apart.append(told[place + 1:after])
        place = after
    return apart


def ask(*calls):
    handed_in = flat(calls)
    if not 1 <= len(calls) <= 60 or len(handed_in) > 240:
        raise AssertionError("such a list is never handed in")
    told = split(answers(handed_in))
    if len(told) != len(calls):
        raise AssertionError(f"{len(calls)} calls, {len(told)} answers")
    return told


def about(m, claims, *calls):
    """What the calls answer, with m letters and these claims here."""
    ahead = [(BEGIN, m)] + [(PUT, claim) for claim in claims]
    told = ask(*ahead, *calls)
    if told[:len(ahead)] != [[0]] + [[number] for number in range(len(claims))]:
        raise AssertionError(f"begin or put is refused: {told}")
    return told[len(ahead):]


def one(m, claims, *call):
    return about(m, claims, call)[0]


def never_and_always(m):
    return (0, 2 ** 2 ** m - 1)


def world_number(world):
    return sum(2 ** letter for letter, so in enumerate(world) if so)


def claim_number(worlds):
    return sum(2 ** world_number(world) for world in worlds)


def all_worlds(m):
    return set(product((False, True), repeat=m))


def worlds_in(m, claim):
    return {world for world in all_worlds(m) if claim // 2 ** world_number(world) % 2 == 1}


def letters_in(m, s):
    return [letter for letter in range(m) if s // 2 ** letter % 2 == 1]


def alike_worlds(world, letters):
    """All worlds that are alike with this one, but for those letters."""
    return set(product(*[(False, True) if k in letters else (so,) for k, so in enumerate(world)]))


def forgotten_by_words(m, claim, s):
    left = set()
    for world in worlds_in(m, claim):
        left |= alike_worlds(world, letters_in(m, s))
    return claim_number(left)


def under_by_words(m, claim, s):
    so = worlds_in(m, claim)
    return claim_number(w for w in all_worlds(m) if alike_worlds(w, letters_in(m, s)) <= so)


def kept_by_words(m, claim, s):
    return forgotten_by_words(m, claim, 2 ** m - 1 - s)


def letters_by_words(m, claim):
    return [k for k in range(m) if forgotten_by_words(m, claim, 2 ** k) != claim]


def follows_by_words(m, first, second):
    return worlds_in(m, first) <= worlds_in(m, second)


def worlds_by_words(m, claim):
    return sorted(world_number(world) for world in worlds_in(m, claim))


def lost_by_words(m, claim, s):
    return len(worlds_in(m, forgotten_by_words(m, claim, s)) - worlds_in(m, claim))


def settles_by_words(m, claim):
    told = []
    for letter in range(m):
        ways = {world[letter] for world in worlds_in(m, claim)}
        told.append(2 if len(ways) == 2 else 0 if ways == {False} else 1)
    return told


def enough_by_words(m, first, second, s):
    return follows_by_words(m, kept_by_words(m, first, s), second)


def least_by_words(m, first, second):
    enough = [set(letters_in(m, s)) for s in range(2 ** m) if enough_by_words(m, first, second, s)]
    least = [letters for letters in enough if not any(letters - {letter} in enough for letter in letters)]
    return sorted(sum(2 ** letter for letter in letters) for letters in least)


def both_by_words(m, first, second):
    return claim_number(worlds_in(m, first) & worlds_in(m, second))


def either_by_words(m, first, second):
    return claim_number(worlds_in(m, first) | worlds_in(m, second))


def not_by_words(m, claim):
    return claim_number(all_worlds(m) - worlds_in(m, claim))


def together_by_words(m, first, second, s):
    at_once = forgotten_by_words(m, both_by_words(m, first, second), s)
    return at_once == both_by_words(m, forgotten_by_words(m, first, s), forgotten_by_words(m, second, s))


def some_claims(m):
    """All claims with up to three letters; with four a spread of them, and the ends."""
    if m < 4:
        return list(range(2 ** 2 ** m))
    return [0, 1, 32768, 65534, 65535, 43690, 52428, 61680, 65280] + list(range(7, 65536, 331))


def some_pairs(m):
    """All pairs with one letter or two; with more a spread, each beside others it does and doesn't follow of."""
    claims = some_claims(m)
    if m < 3:
        return [(first, second) for first in claims for second in claims]
    spread = claims[::5] + claims[-1:]
    pairs = []
    for k, claim in enumerate(spread):
        other = spread[(k * 7 + 3) % len(spread)]
        pairs += [(claim, other), (claim, claim | other), (claim | other, claim), (claim & other, claim)]
    return pairs
