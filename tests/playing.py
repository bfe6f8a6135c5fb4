"""What the tests share: calls as tuples, a look at the choir behind the answers, and a plain choir beside it."""

import itertools

from choirparts.choir import Choir, answer_call, answers

BEGIN, SINGER, THERE, ONLY, PART, NEED, DROP, SING, FEW, CAN, STATE = range(11)
LARGEST = 2 ** 32 - 1
ALL_T = range(-24, 25)
TOO_FAR = (-25, 25, -26, 26, -2 ** 31, 2 ** 31 - 1)
NEAREST_FIRST = sorted(ALL_T, key=lambda t: (abs(t), -t))


def line(calls):
    """One list of whole numbers, as answers takes it."""
    return [number for call in calls for number in call]


def replies(calls):
    """What is answered to each call, as one list each."""
    given = answers(line(calls))
    told = []
    at = 0
    while at < len(given):
        if given[at] < 1:
            raise AssertionError(f"an answer of no number: {given}")
        told.append(given[at + 1:at + 1 + given[at]])
        at += 1 + given[at]
    if at != len(given) or len(told) != len(calls):
        raise AssertionError(f"not one answer for each call: {given}")
    return told


def reply(calls):
    """What is answered to the last of the calls, as one list."""
    return replies(calls)[-1]


def firsts(calls):
    """What is answered to each call, where each answers one number."""
    told = replies(calls)
    if {len(numbers) for numbers in told} != {1}:
        raise AssertionError(f"not one number for each call: {told}")
    return [numbers[0] for numbers in told]


def last(calls):
    """What is answered to the last of the calls, where each answers one number."""
    return firsts(calls)[-1]


def seen_after(calls):
    """All that state, sing, few and can tell behind the calls."""
    singers = reply(calls + [(STATE,)])[0]
    looks = [(STATE,), (SING,)] + [(FEW, t) for t in ALL_T]
    looks += [(CAN, singer, t) for singer in range(singers) for t in ALL_T]
    return replies(calls + looks)[len(calls):]


def choir_after(calls):
    """The choir as it stands behind the calls."""
    choir = Choir()
    for call in calls:
        answer_call(choir, list(call))
    return choir


def singers_after(calls):
    """Each singer as (low, high, there, only)."""
    return [(s.low, s.high, s.there, s.only) for s in choir_after(calls).singers]


def parts_after(calls):
    """Each part as (low, high, need)."""
    return [(p.low, p.high, p.need) for p in choir_after(calls).parts]


def all_after(calls):
    """All that a choir holds."""
    return singers_after(calls), parts_after(calls)


def can_plainly(singer, part, number, t):
    """Whether a singer (low, high, there, only) can sing a part (low, high, need), note by note."""
    low, high, there, only = singer
    fits = all(low <= note + t <= high for note in range(part[0], part[1] + 1))
    return there == 1 and fits and (only == 0 or only == number + 1)


def options_plainly(singers, parts, t):
    """For each singer what they may be told, the first choice first: 1 and more for a part, 0 for none."""
    return [[number + 1 for number, part in enumerate(parts) if can_plainly(singer, part, number, t)] + [0]
            for singer in singers]


def is_way(way, parts):
    """Whether of each part there are just as many as it needs."""
    return all(way.count(number + 1) == part[2] for number, part in enumerate(parts))


def first_way_plainly(singers, parts, t):
    """The first of all ways, found by going through them all, or None."""
    for way in itertools.product(*options_plainly(singers, parts, t)):
        if is_way(way, parts):
            return list(way)
    return None


def first_way_by_leaving_off(singers, parts, t):
    """The same for choirs with too many ways: what was once searched in vain is not searched again."""
    options = options_plainly(singers, parts, t)
    vain = set()

    def search(at, left):
        if at == len(options):
            return [] if not any(left) else None
        if (at, left) in vain:
            return None
        for told in options[at]:
            if told == 0 or left[told - 1] > 0:
                behind = tuple(need - (number + 1 == told) for number, need in enumerate(left))
                way = search(at + 1, behind)
                if way is not None:
                    return [told] + way
        vain.add((at, left))
        return None

    return search(0, tuple(part[2] for part in parts))


def sing_plainly(singers, parts, first_way=first_way_plainly):
    """What sing answers, by first_way at each t, the nearest first."""
    if not parts:
        return [-61]
    for t in NEAREST_FIRST:
        way = first_way(singers, parts, t)
        if way is not None:
            return [len(singers), t] + way
    return [-33]


def few_plainly(singers, parts, t):
    """What few answers for a t that is not too far, by a look at every set of parts."""
    if not parts:
        return [-61]
    short = []
    for chosen in range(2 ** len(parts)):
        numbers = [number for number in range(len(parts)) if chosen & 2 ** number]
        able = [singer for singer in singers if any(can_plainly(singer, parts[n], n, t) for n in numbers)]
        needed = sum(parts[number][2] for number in numbers)
        if len(able) < needed:
            short.append([chosen, len(able), needed])
    return min(short) if short else [0]


def bits_plainly(singer, parts, t):
    """What can answers for a t that is not too far."""
    return sum(2 ** number for number, part in enumerate(parts) if can_plainly(singer, part, number, t))


class PlainChoir:
    """A choir told as the document tells it: who sings one part alone keeps the part itself, not its number."""

    def __init__(self):
        self.singers = []
        self.parts = []

    def seen(self):
        """Singers as (low, high, there, only) and parts as (low, high, need)."""
        singers = []
        for low, high, there, alone in self.singers:
            places = [number + 1 for number, part in enumerate(self.parts) if part is alone]
            singers.append((low, high, there, places[0] if places else 0))
        return singers, [tuple(part) for part in self.parts]

    def change(self, call):
        """What one of the calls 0 to 6 answers."""
        name, numbers = call[0], call[1:]
        if name == BEGIN:
            self.singers, self.parts = [], []
            return 0
        if name in (SINGER, PART):
            low, high = numbers[:2]
            things, most = (self.singers, 12) if name == SINGER else (self.parts, 6)
            if low > high or high > 127 or (name == PART and numbers[2] > 12):
                return -22
            if len(things) == most:
                return -12
            things.append([low, high, 1, None] if name == SINGER else [low, high, numbers[2]])
            return len(things) - 1
        things = self.singers if name in (THERE, ONLY) else self.parts
        if numbers[0] >= len(things) or (name == ONLY and numbers[1] > len(self.parts)):
            return -2
        if numbers[1:] and name != ONLY and numbers[1] > (1 if name == THERE else 12):
            return -22
        if name == ONLY:
            things[numbers[0]][3] = self.parts[numbers[1] - 1] if numbers[1] else None
        elif name == DROP:
            del things[numbers[0]]
            return len(things)
        else:
            things[numbers[0]][2] = numbers[1]
        return 0

    def reply(self, call):
        """What a call answers, as one list."""
        singers, parts = self.seen()
        if call[0] == SING:
            return sing_plainly(singers, parts, first_way_by_leaving_off)
        if call[0] == FEW:
            return [-34] if parts and abs(call[1]) > 24 else few_plainly(singers, parts, call[1])
        if call[0] == CAN:
            if call[1] >= len(singers):
                return [-2]
            return [-34 if abs(call[2]) > 24 else bits_plainly(singers[call[1]], parts, call[2])]
        if call[0] == STATE:
            return [len(singers), len([singer for singer in singers if singer[2]]), len(parts)]
        return [self.change(call)]


def replies_plainly(calls):
    """What the plain choir answers to each call."""
    choir = PlainChoir()
    return [choir.reply(call) for call in calls]


def some_choir(dice, most_singers, most_parts, most_needed):
    """Calls that make a choir by the dice: voices and parts near one another, some away, some for one part alone."""
    singers = dice.randint(0, most_singers)
    parts = dice.randint(1, most_parts)
    middle = dice.randint(30, 75)
    spread = dice.choice((2, 8, 20))
    calls = []
    for _ in range(singers):
        low = dice.randint(45, 60)
        calls.append((SINGER, low, low + dice.randint(4, 16)))
    for _ in range(parts):
        low = middle + dice.randint(-spread, spread)
        calls.append((PART, low, low + dice.randint(0, 6), dice.randint(0, most_needed)))
    for singer in range(singers):
        if dice.random() < 0.15:
            calls.append((THERE, singer, 0))
        if dice.random() < 0.25:
            calls.append((ONLY, singer, dice.randint(1, parts)))
    return calls


def some_call(dice):
    """Any call by the dice, mostly with numbers that are not refused."""
    def mostly(least, most, others):
        return dice.choice(others) if dice.random() < 0.15 else dice.randint(least, most)

    low = mostly(40, 60, (0, 127, 128, LARGEST))
    voice = (low, mostly(low + 6, low + 25, (0, 127, 128, LARGEST)))
    reach = (low, mostly(low, low + 5, (0, 127, 128, LARGEST)))
    singer = mostly(0, 6, (11, 12, LARGEST))
    part = mostly(0, 3, (5, 6, LARGEST))
    alone = mostly(0, 4, (6, 7, LARGEST))
    on = mostly(0, 1, (1, 2, LARGEST))
    need = mostly(0, 2, (1, 12, 13, LARGEST))
    t = mostly(-12, 12, (-24, 24) + TOO_FAR)
    calls = [(BEGIN,), (SINGER, *voice), (THERE, singer, on), (ONLY, singer, alone), (PART, *reach, need),
             (NEED, part, need), (DROP, part), (SING,), (FEW, t), (CAN, singer, t), (STATE,)]
    return dice.choices(calls, (1, 25, 12, 8, 12, 12, 10, 20, 15, 15, 5))[0]
