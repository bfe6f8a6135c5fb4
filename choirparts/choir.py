"""A choir and its song, and what is answered to the calls on them."""

HIGHEST_NOTE = 127
MOST_SINGERS = 12
MOST_PARTS = 6
MOST_NEEDED = 12
FARTHEST = 24

NOT_FOUND = -2
FULL = -12
OUT_OF_RANGE = -22
NEVER_ENOUGH = -33
TOO_FAR = -34
NO_PARTS = -61

BEGIN = 0
SINGER = 1
THERE = 2
ONLY = 3
PART = 4
NEED = 5
DROP = 6
SING = 7
FEW = 8
CAN = 9

# A call doesn't tell its own length, so the place where the next one begins
# comes from here: by a call's number, how many numbers it has with its own.
SIZES = {0: 1, 1: 3, 2: 3, 3: 3, 4: 4, 5: 3, 6: 2, 7: 1, 8: 2, 9: 3, 10: 1}


class Singer:
    """A voice; there is 1 or 0; only is 0 for any part, or a part's number and 1."""

    def __init__(self, low, high):
        self.low = low
        self.high = high
        self.there = 1
        self.only = 0


class Part:
    """A part of the song, and how many singers it needs."""

    def __init__(self, low, high, need):
        self.low = low
        self.high = high
        self.need = need


class Choir:
    """The singers and the parts, each numbered by its place in the list."""

    def __init__(self):
        self.singers = []
        self.parts = []
        # By set of singers (as bits), how many they are: sing counts some
        # thousand sets at a time, and looks each up here.
        self.heads = sums_of_sets([1] * MOST_SINGERS)
        # What sing told last, empty where something was called since that may change it.
        self.sung = []


def sums_of_sets(values):
    """By set of the values' places (as bits), the sum of its values."""
    sums = [0]
    for value in values:
        sums = sums + [before + value for before in sums]
    return sums


def unions_of_sets(values):
    """By set of the values' places (as bits), all bits that any of its values has."""
    unions = [0]
    for value in values:
        unions = unions + [before | value for before in unions]
    return unions


def is_no_reach(low, high):
    """Tell whether no voice and no part reaches from low to high."""
    return low > high or high > HIGHEST_NOTE


def begin(choir):
    """Take all singers and parts away."""
    choir.singers = []
    choir.parts = []
    return 0


def add_singer(choir, low, high):
    """Add a singer who is there and will sing any part; answer their number."""
    if is_no_reach(low, high):
        return OUT_OF_RANGE
    number = len(choir.singers)
    if number >= MOST_SINGERS:
        return FULL
    choir.singers.append(Singer(low, high))
    return number


def set_there(choir, singer, on):
    """Let a singer be there (1) or away (0)."""
    if singer >= len(choir.singers):
        return NOT_FOUND
    if on > 1:
        return OUT_OF_RANGE
    who = choir.singers[singer]
    who.there = on
    return 0


def set_only(choir, singer, part):
    """Let a singer sing the part with the number part - 1 alone, or any (0)."""
    if singer >= len(choir.singers) or part > len(choir.parts):
        return NOT_FOUND
    who = choir.singers[singer]
    who.only = part
    return 0


def add_part(choir, low, high, need):
    """Add a part; answer its number."""
    if is_no_reach(low, high) or need > MOST_NEEDED:
        return OUT_OF_RANGE
    number = len(choir.parts)
    if number >= MOST_PARTS:
        return FULL
    choir.parts.append(Part(low, high, need))
    return number


def set_need(choir, part, n):
    """Let a part need n singers."""
    if part >= len(choir.parts):
        return NOT_FOUND
    if n > MOST_NEEDED:
        return OUT_OF_RANGE
    which = choir.parts[part]
    which.need = n
    return 0


def drop_part(choir, part):
    """Take a part away; answer how many parts are left."""
    if part >= len(choir.parts):
        return NOT_FOUND
    choir.parts.pop(part)
    for who in choir.singers:
        if who.only == part + 1:
            who.only = 0
        elif who.only > part + 1:
            who.only = who.only - 1
    return len(choir.parts)


def able_singers(choir, number, t):
    """Give who can sing the part with this number, sung t higher, as bits: bit s for singer s."""
    low = choir.parts[number].low + t
    high = choir.parts[number].high + t
    willing = (0, number + 1)
    return sum([
        1 << place for place, who in enumerate(choir.singers)
        if who.there == 1 and who.only in willing and who.low <= low and high <= who.high
    ])


def able_by_part(choir, t):
    """Give for each part who can sing it, sung t higher."""
    return [able_singers(choir, number, t) for number in range(len(choir.parts))]


def skill_of(able, singer):
    """Give the parts that a singer can sing as bits, where able tells for each part who can."""
    return sum([1 << number for number, who in enumerate(able) if ((who >> singer) & 1) == 1])


def counts_of_sets(choir, able):
    """By set of parts (as bits), how many can sing any of them."""
    return [choir.heads[who] for who in unions_of_sets(able)]


def needs_of_sets(choir):
    """By set of parts (as bits), how many they need together."""
    return sums_of_sets([part.need for part in choir.parts])


def nearest_first():
    """Give all t, 0 before 1 before -1, and so on."""
    found = [0]
    for t in range(1, FARTHEST + 1):
        found.append(t)
        found.append(-t)
    return found


def first_part(skill, left, spare):
    """Give the least part that a singer may take, as its number and 1, or 0 if there is none."""
    may = skill
    for chosen, more in enumerate(spare):
        # No more can sing any of these parts than they need: whoever can must sing one of them.
        if more == 0 and (chosen & skill) != 0:
            may = may & chosen
    for number, need in enumerate(left):
        if need > 0 and ((may >> number) & 1) == 1:
            return number + 1
    return 0


def spare_behind(spare, skill, told):
    """Give what spare is for the singers behind one who was told a part (its number and 1) or 0."""
    taken = (1 << told) >> 1
    # A set that has the part told loses a singer, but needs one less too.
    return [
        more - 1 if (chosen & skill) != 0 and (chosen & taken) == 0 else more
        for chosen, more in enumerate(spare)
    ]


def first_way(skills, needs, spare):
    """Give for each singer who sings what, the first of all ways.

    spare is, by set of parts, how many more can sing any of them than they need together. As
    long as it is nowhere below 0 there are singers enough: so each singer in turn takes the
    first that leaves it so for those behind.
    """
    left = list(needs)
    way = []
    for skill in skills:
        told = first_part(skill, left, spare)
        if told > 0:
            left[told - 1] = left[told - 1] - 1
        spare = spare_behind(spare, skill, told)
        way.append(told)
    return way


def sung_nearest(choir):
    """Give what sing answers: how many singers, by how much, and who sings what."""
    if len(choir.parts) == 0:
        return [NO_PARTS]
    wanted = needs_of_sets(choir)
    for t in nearest_first():
        able = able_by_part(choir, t)
        spare = [count - need for count, need in zip(counts_of_sets(choir, able), wanted)]
        if min(spare) >= 0:
            skills = [skill_of(able, singer) for singer in range(len(choir.singers))]
            way = first_way(skills, [part.need for part in choir.parts], spare)
            return [len(choir.singers), t] + way
    return [NEVER_ENOUGH]


def sing(choir):
    """Tell how the song is sung; asked again of the same choir, it is not searched again."""
    if len(choir.sung) == 0:
        choir.sung = sung_nearest(choir)
    return list(choir.sung)


def few(choir, t):
    """Tell the least set of parts for which there are too few, how many can sing them and how many they need."""
    if len(choir.parts) == 0:
        return [NO_PARTS]
    if abs(t) > FARTHEST:
        return [TOO_FAR]
    counts = counts_of_sets(choir, able_by_part(choir, t))
    wanted = needs_of_sets(choir)
    for chosen, count in enumerate(counts):
        if count < wanted[chosen]:
            return [chosen, count, wanted[chosen]]
    return [0]


def can(choir, singer, t):
    """Give the parts that a singer can sing, sung t higher, as bits."""
    if singer >= len(choir.singers):
        return NOT_FOUND
    if abs(t) > FARTHEST:
        return TOO_FAR
    return skill_of(able_by_part(choir, t), singer)


def state(choir):
    """Give how many singers there are, how many of them are there, and how many parts there are."""
    return [len(choir.singers), sum([who.there for who in choir.singers]), len(choir.parts)]


def answer_call(choir, call):
    """Carry out one call, its number and then its whole numbers; give the list of what is answered."""
    if call[0] < SING:
        choir.sung = []
    if call[0] == BEGIN:
        return [begin(choir)]
    if call[0] == SINGER:
        return [add_singer(choir, call[1], call[2])]
    if call[0] == THERE:
        return [set_there(choir, call[1], call[2])]
    if call[0] == ONLY:
        return [set_only(choir, call[1], call[2])]
    if call[0] == PART:
        return [add_part(choir, call[1], call[2], call[3])]
    if call[0] == NEED:
        return [set_need(choir, call[1], call[2])]
    if call[0] == DROP:
        return [drop_part(choir, call[1])]
    if call[0] == SING:
        return sing(choir)
    if call[0] == FEW:
        return few(choir, call[1])
    if call[0] == CAN:
        return [can(choir, call[1], call[2])]
    # SIZES holds no other call than those above and state, so this one is state.
    return state(choir)


def answers(calls):
    """Carry out the calls on a new choir; give for each how many numbers are answered, then these."""
    choir = Choir()
    given = []
    at = 0
    while at < len(calls):
        behind = at + SIZES[calls[at]]
        answer = answer_call(choir, calls[at:behind])
        given.append(len(answer))
        given.extend(answer)
        at = behind
    return given
