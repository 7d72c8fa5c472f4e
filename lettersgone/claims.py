"""The calls on one object, and what each of them answers."""

from lettersgone.worlds import always
from lettersgone.worlds import claim_count
from lettersgone.worlds import denied
from lettersgone.worlds import follows
from lettersgone.worlds import forgotten
from lettersgone.worlds import forgotten_together
from lettersgone.worlds import is_enough
from lettersgone.worlds import kept
from lettersgone.worlds import least_sets
from lettersgone.worlds import letters_needed
from lettersgone.worlds import lost_worlds
from lettersgone.worlds import settled
from lettersgone.worlds import told_without
from lettersgone.worlds import under
from lettersgone.worlds import world_count
from lettersgone.worlds import worlds_of

MOST_LETTERS = 4
MOST_CLAIMS = 4

NO_SUCH_CLAIM = -2
NO_BEGIN = -11
NOT_RIGHT = -22
TOO_MANY = -28
NOT_FOLLOWING = -33

BEGIN = 0


class Here:
    """The object of the calls: how many letters it has (0 before a begin), and its claims."""

    def __init__(self):
        self.m = 0
        self.claims = []


def one_or_zero(holds):
    # A truth value is not a whole number to those who read the answers.
    return [1 if holds else 0]


def answer_begin(here, given):
    here.m = given[0]
    here.claims = []
    return [0]


def answer_put(here, given):
    if len(here.claims) == MOST_CLAIMS:
        return [TOO_MANY]
    here.claims.append(given[0])
    return [len(here.claims) - 1]


def answer_set(here, given):
    before = here.claims[given[0]]
    here.claims[given[0]] = given[1]
    return [before]


def answer_drop(here, given):
    here.claims.pop(given[0])
    return [len(here.claims)]


def answer_forget(here, given):
    return [forgotten(here.m, here.claims[given[0]], given[1])]


def answer_keep(here, given):
    return [kept(here.m, here.claims[given[0]], given[1])]


def answer_under(here, given):
    return [under(here.m, here.claims[given[0]], given[1])]


def answer_letters(here, given):
    needed = letters_needed(here.m, here.claims[given[0]])
    return [len(needed)] + needed


def answer_without(here, given):
    return one_or_zero(told_without(here.m, here.claims[given[0]], given[1]))


def answer_says(here, given):
    return one_or_zero(kept(here.m, here.claims[given[0]], given[1]) != always(here.m))


def answer_alike(here, given):
    first = kept(here.m, here.claims[given[0]], given[2])
    second = kept(here.m, here.claims[given[1]], given[2])
    return one_or_zero(first == second)


def answer_more(here, given):
    first = kept(here.m, here.claims[given[0]], given[2])
    second = kept(here.m, here.claims[given[1]], given[2])
    return one_or_zero(follows(first, second))


def answer_lost(here, given):
    return [lost_worlds(here.m, here.claims[given[0]], given[1])]


def answer_settles(here, given):
    claim = here.claims[given[0]]
    return [here.m] + [settled(here.m, claim, letter) for letter in range(here.m)]


def answer_follows(here, given):
    return one_or_zero(follows(here.claims[given[0]], here.claims[given[1]]))


def answer_enough(here, given):
    return one_or_zero(is_enough(here.m, here.claims[given[0]], here.claims[given[1]], given[2]))


def answer_least(here, given):
    first = here.claims[given[0]]
    second = here.claims[given[1]]
    if not follows(first, second):
        return [NOT_FOLLOWING]
    sets = least_sets(here.m, first, second)
    return [len(sets)] + sets


def answer_together(here, given):
    return one_or_zero(forgotten_together(here.m, here.claims[given[0]], here.claims[given[1]], given[2]))


def answer_both(here, given):
    return [here.claims[given[0]] & here.claims[given[1]]]


def answer_either(here, given):
    return [here.claims[given[0]] | here.claims[given[1]]]


def answer_not(here, given):
    return [denied(here.m, here.claims[given[0]])]


def answer_worlds(here, given):
    so_in = worlds_of(here.m, here.claims[given[0]])
    return [len(so_in)] + so_in


def answer_look(here, given):
    return [here.claims[given[0]]]


def answer_state(here, given):
    return [here.m, len(here.claims)]


# Both tables stand in the order of the calls' numbers. A form has a letter for each argument:
# m how many letters, i a claim here, p a claim told, s a set of letters.
FORMS = (
    "m", "p", "ip", "i", "is", "is", "is", "i", "is", "is", "iis", "iis",
    "is", "i", "ii", "iis", "ii", "iis", "ii", "ii", "i", "i", "i", "",
)
CALLS = (
    answer_begin,
    answer_put,
    answer_set,
    answer_drop,
    answer_forget,
    answer_keep,
    answer_under,
    answer_letters,
    answer_without,
    answer_says,
    answer_alike,
    answer_more,
    answer_lost,
    answer_settles,
    answer_follows,
    answer_enough,
    answer_least,
    answer_together,
    answer_both,
    answer_either,
    answer_not,
    answer_worlds,
    answer_look,
    answer_state,
)


def refusal_of_argument(here, kind, number):
    """The refusal that is due for one argument, or 0 if it is right."""
    if kind == "m":
        return 0 if 1 <= number <= MOST_LETTERS else NOT_RIGHT
    if kind == "i":
        return 0 if number < len(here.claims) else NO_SUCH_CLAIM
    if kind == "p":
        return 0 if number < claim_count(here.m) else NOT_RIGHT
    return 0 if number < world_count(here.m) else NOT_RIGHT


def refusal(here, call, given):
    """The first refusal that is due for a call's arguments, or 0 if they are right."""
    if call != BEGIN and here.m == 0:
        return NO_BEGIN
    # Claims here stand ahead of p and s in every form, so -2 comes before -22.
    for kind, number in zip(FORMS[call], given):
        due = refusal_of_argument(here, kind, number)
        if due != 0:
            return due
    return 0


def answer_call(here, call, given):
    due = refusal(here, call, given)
    if due != 0:
        return [due]
    return CALLS[call](here, given)


def answers(calls):
    """What the calls answer on a new object: for each how many numbers, then these."""
    here = Here()
    told = []
    place = 0
    while place < len(calls):
        call = calls[place]
        after = place + 1 + len(FORMS[call])
        answer = answer_call(here, call, calls[place + 1:after])
        told.append(len(answer))
        told.extend(answer)
        place = after
    return told
