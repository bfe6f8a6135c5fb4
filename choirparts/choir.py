"""A choir and its song, and what is answered to the calls on them."""

HIGHEST_NOTE = 127
MOST_SINGERS = 12
MOST_PARTS = 6
MOST_NEEDED = 12

NOT_FOUND = -2
FULL = -12
OUT_OF_RANGE = -22

BEGIN = 0
SINGER = 1
THERE = 2
ONLY = 3
PART = 4

# A call doesn't tell its own length, so the place where the next one begins
# comes from here: by a call's number, how many numbers it has with its own.
SIZES = {0: 1, 1: 3, 2: 3, 3: 3, 4: 4, 5: 3}


class Singer:
    """A voice; there is 1 or 0; only is 0 for any part, or a part's number and 1."""

    def __init__(self, low, high):
        self.low = low
        self.high = high
        self.there = 1
        self.only = 0


class Part:
    """A part of the song, and how many singers it needs."""

    def __init__(self, low, high, need):
        self.low = low
        self.high = high
        self.need = need


class Choir:
    """The singers and the parts, each numbered by its place in the list."""

    def __init__(self):
        self.singers = []
        self.parts = []


def is_no_reach(low, high):
    """Tell whether no voice and no part reaches from low to high."""
    return low > high or high > HIGHEST_NOTE


def begin(choir):
    """Take all singers and parts away."""
    choir.singers = []
    choir.parts = []
    return 0


def add_singer(choir, low, high):
    """Add a singer who is there and will sing any part; answer their number."""
    if is_no_reach(low, high):
        return OUT_OF_RANGE
    number = len(choir.singers)
    if number >= MOST_SINGERS:
        return FULL
    choir.singers.append(Singer(low, high))
    return number


def set_there(choir, singer, on):
    """Let a singer be there (1) or away (0)."""
    if singer >= len(choir.singers):
        return NOT_FOUND
    if on > 1:
        return OUT_OF_RANGE
    who = choir.singers[singer]
    who.there = on
    return 0


def set_only(choir, singer, part):
    """Let a singer sing the part with the number part - 1 alone, or any (0)."""
    if singer >= len(choir.singers) or part > len(choir.parts):
        return NOT_FOUND
    who = choir.singers[singer]
    who.only = part
    return 0


def add_part(choir, low, high, need):
    """Add a part; answer its number."""
    if is_no_reach(low, high) or need > MOST_NEEDED:
        return OUT_OF_RANGE
    number = len(choir.parts)
    if number >= MOST_PARTS:
        return FULL
    choir.parts.append(Part(low, high, need))
    return number


def set_need(choir, part, n):
    """Let a part need n singers."""
    if part >= len(choir.parts):
        return NOT_FOUND
    if n > MOST_NEEDED:
        return OUT_OF_RANGE
    which = choir.parts[part]
    which.need = n
    return 0


def answer_call(choir, call):
    """Carry out one call, its number and then its whole numbers; give the list of what is answered."""
    if call[0] == BEGIN:
        return [begin(choir)]
    if call[0] == SINGER:
        return [add_singer(choir, call[1], call[2])]
    if call[0] == THERE:
        return [set_there(choir, call[1], call[2])]
    if call[0] == ONLY:
        return [set_only(choir, call[1], call[2])]
    if call[0] == PART:
        return [add_part(choir, call[1], call[2], call[3])]
    # SIZES holds no other call than those above and need, so this one is need.
    return [set_need(choir, call[1], call[2])]


def answers(calls):
    """Carry out the calls on a new choir; give for each how many numbers are answered, then these."""
    choir = Choir()
    given = []
    at = 0
    while at < len(calls):
        behind = at + SIZES[calls[at]]
        answer = answer_call(choir, calls[at:behind])
        given.append(len(answer))
        given.extend(answer)
        at = behind
    return given
