"""Claims as sets of worlds, and what is left of them without some letters.

m is how many letters there are; a claim, a world and a set of letters s are each told as one number.
"""


def world_count(m):
    """How many worlds there are; there are just as many sets of letters."""
    return 1 << m


def claim_count(m):
    return 1 << world_count(m)


def all_letters(m):
    return world_count(m) - 1


def always(m):
    """The claim that is so in each world."""
    return claim_count(m) - 1


def denied(m, claim):
    """The claim that is so just where this one isn't."""
    return always(m) ^ claim


def has(told, part):
    """Whether a claim has this world, or a world or a set of letters this letter: all are told in one way."""
    return (told >> part) & 1 == 1


def claim_of(worlds):
    return sum([1 << world for world in worlds])


def worlds_of(m, claim):
    """The worlds in which the claim is so, rising."""
    return [world for world in range(world_count(m)) if has(claim, world)]


def forgotten(m, claim, s):
    # Worlds are alike, but for s, just if they become one world when every letter of s is made so.
    filled = [world | s for world in worlds_of(m, claim)]
    return claim_of([world for world in range(world_count(m)) if (world | s) in filled])


def under(m, claim, s):
    # A world is left out just if one that is alike, but for s, lies outside the claim.
    return denied(m, forgotten(m, denied(m, claim), s))


def kept(m, claim, s):
    return forgotten(m, claim, all_letters(m) ^ s)


def told_without(m, claim, s):
    return forgotten(m, claim, s) == claim


def letters_needed(m, claim):
    """The letters on which the claim depends, rising."""
    return [letter for letter in range(m) if not told_without(m, claim, 1 << letter)]


def follows(first, second):
    """Whether the second claim follows of the first."""
    return (first & second) == first


def lost_worlds(m, claim, s):
    """In how many more worlds the claim is so, the letters of s forgotten."""
    return len(worlds_of(m, forgotten(m, claim, s))) - len(worlds_of(m, claim))


def settled(m, claim, letter):
    """1 if the letter is so in each world in which the claim is, 0 if it is in none of these, 2 if neither."""
    letter_so = claim_of([world for world in range(world_count(m)) if has(world, letter)])
    # A claim that is never so has no such worlds at all, and answers 1: so this is asked first.
    if follows(claim, letter_so):
        return 1
    return 0 if follows(claim, denied(m, letter_so)) else 2


def is_enough(m, first, second, s):
    """Whether the second claim follows of what the first says of the letters of s alone."""
    return follows(kept(m, first, s), second)


def has_one_fewer(m, s, enough):
    """Whether s without some one of its letters is among those sets that are enough."""
    fewer = [s ^ (1 << letter) for letter in range(m) if has(s, letter)]
    return any([few in enough for few in fewer])


def least_sets(m, first, second):
    """The sets of letters that are enough, but without any one of their letters aren't, rising."""
    enough = [s for s in range(world_count(m)) if is_enough(m, first, second, s)]
    return [s for s in enough if not has_one_fewer(m, s, enough)]


def forgotten_together(m, first, second, s):
    """Whether what both claims become, the letters of s forgotten, is what that both are so becomes."""
    return forgotten(m, first & second, s) == forgotten(m, first, s) & forgotten(m, second, s)
