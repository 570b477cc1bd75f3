"""Each one's part of a script: whether one who knows it alone always knows what to do."""

from keytalk.refusals import NOT_CLEAR, TOO_MANY

END = 255
MOST_STATES = 64
MOST_WORDS = 16

# A state is a whole number: bit q stands for place q, and the bit behind the 32 places for over.
OVER = 4294967296


def takes_part(place, party):
    return party == place.speaker or party == place.hearer


def bit_of(behind):
    if behind == END:
        return OVER
    return 1 << behind


def bits_behind(place):
    bits = 0
    for way in place.ways:
        bits = bits | bit_of(way.behind)
    return bits


# All that is gone to from each place through places at which the party is neither, these too.
# Each place between is taken up once: what goes to it goes on to all that it goes to.
def gone_to_from_all(places, party):
    gone = [bits_behind(place) for place in places]
    for q, between in enumerate(places):
        if not takes_part(between, party):
            gone = [bits | gone[q] if (bits >> q) & 1 == 1 else bits for bits in gone]
    return gone


# What the party comes to from each place.
def come_to_from_all(places, party):
    gone = gone_to_from_all(places, party)
    own = OVER + sum([1 << q for q, place in enumerate(places) if takes_part(place, party)])
    # Where none of its own is gone to, the others go round for ever: for the party it's over there.
    stuck = sum([1 << q for q, bits in enumerate(gone) if (own >> q) & 1 == 0 and (bits & own) == 0])
    comes = []
    for q, bits in enumerate(gone):
        if (own >> q) & 1 == 1:
            comes.append(1 << q)
        elif (bits & stuck) != 0:
            comes.append((bits & own) | OVER)
        else:
            comes.append(bits & own)
    return comes


def come_to_behind(way, comes):
    if way.behind == END:
        return OVER
    return comes[way.behind]


def places_in(state, places):
    return [place for q, place in enumerate(places) if (state >> q) & 1 == 1]


def words_at(place):
    return sorted([way.word for way in place.ways])


# At each place of a state the party is one of the two, so it's enough to look at the other one.
def is_clear(state, places, party):
    inside = places_in(state, places)
    if not inside:
        return True
    if (state & OVER) != 0:
        return False
    first = inside[0]
    if first.speaker != party:
        return all([place.speaker == first.speaker for place in inside])
    same_hearer = all([place.hearer == first.hearer for place in inside])
    return same_hearer and all([words_at(place) == words_at(first) for place in inside])


# Of each word of a state, the state behind it.
def states_behind(state, places, comes):
    behind = {}
    for place in places_in(state, places):
        for way in place.ways:
            behind[way.word] = behind.get(way.word, 0) | come_to_behind(way, comes)
    return behind


# State by state as they're numbered, so that the first refusal that is due is the one answered.
def part_refusal(places, party):
    comes = come_to_from_all(places, party)
    states = [comes[0]]
    number = 0
    while number < len(states):
        if not is_clear(states[number], places, party):
            return NOT_CLEAR
        behind = states_behind(states[number], places, comes)
        if len(behind) > MOST_WORDS:
            return TOO_MANY
        for word in sorted(behind):
            if behind[word] not in states:
                states.append(behind[word])
        if len(states) > MOST_STATES:
            return TOO_MANY
        number += 1
    return 0
