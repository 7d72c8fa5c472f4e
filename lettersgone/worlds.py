"""Claims as sets of worlds, and what is left of them without some letters.

m is how many letters there are; a claim, a world and a set of letters s are each told as one number.
"""


def world_count(m):
    """How many worlds there are; there are just as many sets of letters."""
    return 1 << m


def claim_count(m):
    return 1 << world_count(m)


def all_letters(m):
    return world_count(m) - 1


def always(m):
    """The claim that is so in each world."""
    return claim_count(m) - 1


def is_so(claim, world):
    return (claim >> world) & 1 == 1


def claim_of(worlds):
    return sum([1 << world for world in worlds])


def forgotten(m, claim, s):
    # Worlds are alike, but for s, just if they become one world when every letter of s is made so.
    filled = [world | s for world in range(world_count(m)) if is_so(claim, world)]
    return claim_of([world for world in range(world_count(m)) if (world | s) in filled])


def under(m, claim, s):
    # A world is left out just if one that is alike, but for s, lies outside the claim.
    outside = always(m) ^ claim
    return always(m) ^ forgotten(m, outside, s)


def kept(m, claim, s):
    return forgotten(m, claim, all_letters(m) ^ s)


def told_without(m, claim, s):
    return forgotten(m, claim, s) == claim


def letters_needed(m, claim):
    """The letters on which the claim depends, rising."""
    return [letter for letter in range(m) if not told_without(m, claim, 1 << letter)]


def follows(first, second):
    """Whether the second claim follows of the first."""
    return (first & second) == first
