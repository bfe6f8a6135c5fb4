"""What the tests share: calls as tuples, and a look at the choir behind the answers."""

from choirparts.choir import Choir, answer_call, answers

BEGIN, SINGER, THERE, ONLY, PART, NEED = range(6)
LARGEST = 2 ** 32 - 1


def line(calls):
    """One list of whole numbers, as answers takes it."""
    return [number for call in calls for number in call]


def firsts(calls):
    """What is answered to each call, where each answers one number."""
    given = answers(line(calls))
    if given[0::2] != [1] * len(calls) or len(given) != 2 * len(calls):
        raise AssertionError(f"not one number for each call: {given}")
    return given[1::2]


def last(calls):
    """What is answered to the last of the calls."""
    return firsts(calls)[-1]


def choir_after(calls):
    """The choir as it stands behind the calls."""
    choir = Choir()
    for call in calls:
        answer_call(choir, list(call))
    return choir


def singers_after(calls):
    """Each singer as (low, high, there, only)."""
    return [(s.low, s.high, s.there, s.only) for s in choir_after(calls).singers]


def parts_after(calls):
    """Each part as (low, high, need)."""
    return [(p.low, p.high, p.need) for p in choir_after(calls).parts]


def all_after(calls):
    """All that a choir holds."""
    return singers_after(calls), parts_after(calls)
