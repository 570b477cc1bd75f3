"""Each one's part of a script: what they do in it, and whether one who knows it alone always knows that."""

from keytalk.refusals import NOT_CLEAR, TOO_MANY

END = 255
MOST_STATES = 64
MOST_WORDS = 16

NOTHING_TO_DO = 0
SPEAKS = 1
LISTENS = 2

# A state is a whole number: bit q stands for place q, and the bit behind the 32 places for over.
OVER = 4294967296


# The rows of all states, in order; or, where the refusal isn't 0, why there are none.
class Part:
    def __init__(self, refusal, rows):
        self.refusal = refusal
        self.rows = rows


def takes_part(place, party):
    return party == place.speaker or party == place.hearer


def bit_of(behind):
    if behind == END:
        return OVER
    return 1 << behind


def bits_behind(place):
    bits = 0
    for way in place.ways:
        bits = bits | bit_of(way.behind)
    return bits


# All that is gone to from each place through places at which the party is neither, these too.
# Each place between is taken up once: what goes to it goes on to all that it goes to.
def gone_to_from_all(places, party):
    gone = [bits_behind(place) for place in places]
    for q, between in enumerate(places):
        if not takes_part(between, party):
            gone = [bits | gone[q] if (bits >> q) & 1 == 1 else bits for bits in gone]
    return gone


# What the party comes to from each place.
def come_to_from_all(places, party):
    gone = gone_to_from_all(places, party)
    own = OVER + sum([1 << q for q, place in enumerate(places) if takes_part(place, party)])
    # Where none of its own is gone to, the others go round for ever: for the party it's over there.
    stuck = sum([1 << q for q, bits in enumerate(gone) if (own >> q) & 1 == 0 and (bits & own) == 0])
    comes = []
    for q, bits in enumerate(gone):
        if (own >> q) & 1 == 1:
            comes.append(1 << q)
        elif (bits & stuck) != 0:
            comes.append((bits & own) | OVER)
        else:
            comes.append(bits & own)
    return comes


def come_to_behind(way, comes):
    if way.behind == END:
        return OVER
    return comes[way.behind]


def places_in(state, places):
    return [place for q, place in enumerate(places) if (state >> q) & 1 == 1]


def words_at(place):
    return sorted([way.word for way in place.ways])


# At each place of a state the party is one of the two, so it's enough to look at the other one.
def is_clear(state, places, party):
    inside = places_in(state, places)
    if not inside:
        return True
    if (state & OVER) != 0:
        return False
    first = inside[0]
    if first.speaker != party:
        return all([place.speaker == first.speaker for place in inside])
    same_hearer = all([place.hearer == first.hearer for place in inside])
    return same_hearer and all([words_at(place) == words_at(first) for place in inside])


# Of each word of a state, the state behind it.
def states_behind(state, places, comes):
    behind = {}
    for place in places_in(state, places):
        for way in place.ways:
            behind[way.word] = behind.get(way.word, 0) | come_to_behind(way, comes)
    return behind


# Asked only of a clear state: at all of its places the party does the same as at the first.
def kind_and_other(state, places, party):
    inside = places_in(state, places)
    if not inside:
        return [NOTHING_TO_DO, 0]
    if inside[0].speaker == party:
        return [SPEAKS, inside[0].hearer]
    return [LISTENS, inside[0].speaker]


# What is told of a clear state, once all states behind it have their numbers.
def row_of(state, places, party, behind, states):
    row = kind_and_other(state, places, party)
    row.append(len(behind))
    for word in sorted(behind):
        row.append(word)
        row.append(states.index(behind[word]))
    return row


# State by state as they're numbered, so that the first refusal that is due is the one answered.
def part_of(places, party):
    comes = come_to_from_all(places, party)
    states = [comes[0]]
    rows = []
    while len(rows) < len(states):
        state = states[len(rows)]
        if not is_clear(state, places, party):
            return Part(NOT_CLEAR, [])
        behind = states_behind(state, places, comes)
        if len(behind) > MOST_WORDS:
            return Part(TOO_MANY, [])
        for word in sorted(behind):
            if behind[word] not in states:
                states.append(behind[word])
        if len(states) > MOST_STATES:
            return Part(TOO_MANY, [])
        rows.append(row_of(state, places, party, behind, states))
    return Part(0, rows)


# Party by party, in order; none is looked for behind one that's refused, which then is the last.
def parts_of_all(places, parties):
    parts = []
    for party in range(parties):
        parts.append(part_of(places, party))
        if parts[-1].refusal != 0:
            break
    return parts
