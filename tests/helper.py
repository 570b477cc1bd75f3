"""What the tests share: calls by name, hands that key, and the document's words once more, done slowly."""

import copy
import itertools
import random

from keytalk.desk import answers

END = 255
CODES = dict(zip("ABCDEFGHIJKLMNOPQRSTUVWXYZ0123456789", (
    ".- -... -.-. -.. . ..-. --. .... .. .--- -.- .-.. -- -. --- .--. --.- .-. ... - ..- ...- .-- -..- -.-- --.. "
    "----- .---- ..--- ...-- ....- ..... -.... --... ---.. ----.").split()))


def begin(p=2, lo=10, hi=10, e=0):
    return [0, p, lo, hi, e]


def word(letters):
    if isinstance(letters, str):
        letters = list(letters.encode())
    return [1, len(letters)] + list(letters)


def place(speaker, hearer):
    return [2, speaker, hearer]


def way(q, w, behind):
    return [3, q, w, behind]


def down(c, t):
    return [5, c, t]


def up(c, t):
    return [6, c, t]


def at(t):
    return [7, t]


def said(k):
    return [13, k]


def units(c):
    return [15, c]


def lengths(c, w, room=160):
    return [16, c, w, room]


def letters_of(w):
    return [17, w]


def states(c):
    return [18, c]


def part(c, i):
    return [19, c, i]


OPEN = [4]
AGAIN = [8]
BACK = [9]
TURN = [10]
MAY = [11]
LIKELY = [12]
MANY = [14]
CALLS = "begin word place way open down up at again back turn may likely said many units lengths letters states part"
MOST_CALLS = 700
MOST_NUMBERS = 31000


def split_answers(row):
    """The answers of each call, out of the one list."""
    split, start = [], 0
    while start < len(row):
        split.append(row[start + 1:start + 1 + row[start]])
        start += 1 + row[start]
    return split


def rows(calls):
    """What each of the calls answers, number by number."""
    calls = list(calls)
    handed = [number for call in calls for number in call]
    assert len(calls) <= MOST_CALLS and len(handed) <= MOST_NUMBERS, (len(calls), len(handed))
    split = split_answers(answers(handed))
    assert len(split) == len(calls), (split, calls)
    return split


def ask(calls):
    """What each of the calls answers, where each answers one number alone."""
    split = rows(calls)
    assert all(len(one) == 1 for one in split), split
    return [one[0] for one in split]


def last(calls):
    return ask(calls)[-1]


def tail(before, calls):
    """The answers of the calls that stand behind others."""
    return ask(list(before) + list(calls))[len(before):]


def tail_rows(before, calls):
    """The answers, number by number, of the calls that stand behind others."""
    return rows(list(before) + list(calls))[len(before):]


def look(p, words, things=8):
    """All that can be asked of a talk of so many parties, words and things."""
    calls = [TURN, MAY, LIKELY, MANY] + [said(k) for k in range(things + 1)]
    for c in range(p + 1):
        calls += [units(c), lengths(c, 0), states(c), part(c, 0), part(c, 1)]
    return calls + [letters_of(w) for w in range(words + 1)]


def part_rows(before, c):
    """The rows of all states of a party, each without its 0."""
    many = tail_rows(before, [states(c)])[0][0]
    found = tail_rows(before, [part(c, i) for i in range(many + 1)])
    assert found[-1] == [-2] and all(row[0] == 0 for row in found[:-1]), found
    return [row[1:] for row in found[:-1]]


def script(places, words=None, p=None, lo=10, hi=10, e=0):
    """Tells a script. A place is (speaker, hearer, {word: behind}); words are told in the order given, then as met."""
    told = list(words or [])
    for _, _, ways in places:
        told += [letters for letters in ways if letters not in told]
    parties = p or max(max(speaker, hearer) for speaker, hearer, _ in places) + 1
    calls = [begin(parties, lo, hi, e)] + [word(letters) for letters in told]
    calls += [place(speaker, hearer) for speaker, hearer, _ in places]
    for q, (_, _, ways) in enumerate(places):
        calls += [way(q, told.index(letters), behind) for letters, behind in ways.items()]
    return calls


def opened(places, **more):
    return script(places, **more) + [OPEN]


def cycle(speaker, hearer, letters, first, size):
    """Places numbered from first on that go round."""
    return [(speaker, hearer, {letters: first + (k + 1) % size}) for k in range(size)]


def two_cycles(lead, first=7, second=9):
    """Party 2 hears the same word over and over in one of two rounds, and can't know in which: so many states as
    are in the lead, and the least number that both rounds divide."""
    places = [(0, 2, {"E": k + 1}) for k in range(lead)]
    places.append((0, 1, {"E": lead + 1, "T": lead + 1 + first}))
    places += cycle(0, 2, "E", lead + 1, first)
    return places + cycle(0, 2, "E", lead + 1 + first, second)


def pattern(letters):
    """Marks and gaps in units, as the document's table has them."""
    row = []
    for letter in letters:
        row += [3] * bool(row)
        for k, sign in enumerate(CODES[letter]):
            row += [1] * bool(k) + [1 if sign == "." else 3]
    return row


def key_lengths(c, t, lengths):
    """Turns the key at t, and again behind each length."""
    calls, pressed = [down(c, t)], True
    for length in lengths:
        t += length
        pressed = not pressed
        calls.append(down(c, t) if pressed else up(c, t))
    return calls


def spell(c, t, letters, unit, off=None):
    """Keys a word from t on, each length off by what off has in turn."""
    off = off or itertools.repeat(0)
    return key_lengths(c, t, [k * unit + by for k, by in zip(pattern(letters), off)])


def ends(calls):
    """The tick of the last call."""
    return calls[-1][-1]


def say(c, t, letters, unit, wait):
    """Keys a word, and waits behind it."""
    calls = spell(c, t, letters, unit)
    return calls + [at(ends(calls) + wait)]


class Oracle:
    """The document, call by call, with each set written out: slow, and on no account clever."""

    def __init__(self):
        self.s = None

    def rows(self, calls):
        given = []
        for call in calls:
            # The calls from 10 on store nothing, so there's nothing to hold against.
            before = copy.deepcopy(self.s) if call[0] <= 9 else self.s
            answer = self.one(call[0], call[2:] if call[0] == 1 else call[1:])
            row = [answer] if isinstance(answer, int) else answer
            if row[0] < 0:
                assert self.s == before
            given.append(row)
        return given

    def ask(self, calls):
        given = self.rows(calls)
        assert all(len(row) == 1 for row in given), given
        return [row[0] for row in given]

    def one(self, number, args):
        name = CALLS.split()[number]
        if number in (1, 2, 3, 4) and self.s["open"]:
            return -16
        if number > 4 and name != "letters" and not self.s["open"]:
            return -6
        return getattr(self, name)(*([list(args)] if number == 1 else args))

    def begin(self, p, lo, hi, e):
        if p not in range(2, 9) or lo not in range(1, 4097) or hi not in range(lo, 4097) or e not in range(lo):
            return -22
        self.s = dict(p=p, lo=lo, hi=hi, e=e, words=[], places=[], open=False)
        return 0

    def word(self, letters):
        text = bytes(letters).decode("latin-1")
        if len(text) not in range(1, 13) or set(text) - set(CODES):
            return -22
        if text not in self.s["words"]:
            if len(self.s["words"]) == 64:
                return -28
            self.s["words"].append(text)
        return self.s["words"].index(text)

    def place(self, speaker, hearer):
        if speaker not in range(self.s["p"]) or hearer not in range(self.s["p"]) or speaker == hearer:
            return -22
        if len(self.s["places"]) == 32:
            return -28
        self.s["places"].append((speaker, hearer, {}))
        return len(self.s["places"]) - 1

    def way(self, q, w, behind):
        if q not in range(len(self.s["places"])):
            return -2
        if w not in range(len(self.s["words"])) or behind not in list(range(32)) + [END]:
            return -22
        ways = self.s["places"][q][2]
        if w in ways:
            return -17
        if len(ways) == 4:
            return -28
        ways[w] = behind
        return len(ways)

    def open(self):
        places = self.s["places"]
        known = list(range(len(places))) + [END]
        if not places or any(not ways or set(ways.values()) - set(known) for _, _, ways in places):
            return -61
        parts = []
        for c in range(self.s["p"]):
            parts.append(self.part_of(places, c))
            if isinstance(parts[-1], int):
                return parts[-1]
        self.s.update(open=True, here=0, now=0, said=[], lengths=[], down=False, turned=0, parts=parts,
                      units=[set(range(self.s["lo"], self.s["hi"] + 1)) for _ in range(self.s["p"])])
        return 0

    @staticmethod
    def through(places, c, q):
        """The places that are gone through from q on at which c is neither, and what is come to behind them."""
        gone, found, todo = set(), set(), [q]
        while todo:
            r = todo.pop()
            if r == END or c in places[r][:2]:
                found.add(r)
            elif r not in gone:
                gone.add(r)
                todo += places[r][2].values()
        return gone, found

    def comes_to(self, places, c, q):
        gone, found = self.through(places, c, q)
        if any(not self.through(places, c, r)[1] for r in gone):
            found.add(END)
        return frozenset(found)

    @staticmethod
    def clear(places, c, state):
        if not state - {END}:
            return True
        if END in state:
            return False
        froms, tos = {places[q][0] for q in state}, {places[q][1] for q in state}
        words = {frozenset(places[q][2]) for q in state}
        return len(froms) == len(tos) == 1 and (froms != {c} or len(words) == 1)

    @staticmethod
    def kind(places, c, state):
        if not state - {END}:
            return [0, 0]
        speaker, hearer, _ = places[min(state)]
        return [1, hearer] if speaker == c else [2, speaker]

    def part_of(self, places, c):
        """The rows of the states, or why there are none."""
        states, found = [self.comes_to(places, c, 0)], []
        for state in states:
            if not self.clear(places, c, state):
                return -71
            inside = state - {END}
            words = {w for q in inside for w in places[q][2]}
            if len(words) > 16:
                return -75
            found.append(self.kind(places, c, state) + [len(words)])
            for w in sorted(words):
                nexts = [places[q][2][w] for q in inside if w in places[q][2]]
                behind = frozenset().union(*[self.comes_to(places, c, r) for r in nexts])
                if behind not in states:
                    if len(states) == 64:
                        return -75
                    states.append(behind)
                found[-1] += [w, states.index(behind)]
        return found

    def key(self, c, t, pressed):
        s = self.s
        if c not in range(s["p"]):
            return -22
        if s["here"] == END or s["places"][s["here"]][0] != c:
            return -1
        if t not in range(s["now"], 2 ** 31):
            return -22
        if s["down"] == pressed:
            return -16
        if (s["lengths"] or s["down"]) and t <= s["turned"]:
            return -22
        if len(s["lengths"]) == 160:
            return -28
        if s["lengths"] or s["down"]:
            s["lengths"].append(min(t - s["turned"], 1000000))
        s.update(down=pressed, turned=t, now=t)
        return 0

    def down(self, c, t):
        return self.key(c, t, True)

    def up(self, c, t):
        return self.key(c, t, False)

    def may_be(self, text, u, lasted):
        s, row = self.s, pattern(text)
        e, n = s["e"], len(s["lengths"])
        if n > len(row) or any(abs(x - k * u) > e for x, k in zip(s["lengths"], row)):
            return False
        if s["down"]:
            return n < len(row) and lasted <= row[n] * u + e
        return n == 0 or n == len(row) or lasted <= row[n] * u + e

    def over(self, text, u, lasted):
        s = self.s
        return len(pattern(text)) == len(s["lengths"]) and not s["down"] and lasted > 3 * u + s["e"]

    def all_that_may_be(self, t):
        s = self.s
        if s["here"] == END:
            return set()
        speaker, _, ways = s["places"][s["here"]]
        lasted = min(t - s["turned"], 1000000)
        return {(w, u) for w in ways for u in s["units"][speaker] if self.may_be(s["words"][w], u, lasted)}

    def at(self, t):
        s = self.s
        if t not in range(s["now"], 2 ** 31):
            return -22
        may, lasted = self.all_that_may_be(t), min(t - s["turned"], 1000000)
        said = len({w for w, _ in may}) == 1 and all(self.over(s["words"][w], u, lasted) for w, u in may)
        if said and len(s["said"]) == 64:
            return -28
        s["now"] = t
        if not said:
            return 0
        w = min(may)[0]
        speaker, _, ways = s["places"][s["here"]]
        s["said"].append((s["here"], w, t, speaker, s["units"][speaker]))
        s["units"][speaker] = {u for _, u in may}
        s.update(here=ways[w], lengths=[], down=False)
        return 1

    def again(self):
        there_were = len(self.s["lengths"])
        self.s.update(lengths=[], down=False)
        return there_were

    def back(self):
        if not self.s["said"]:
            return -11
        here, w, _, speaker, units = self.s["said"].pop()
        self.s["units"][speaker] = units
        self.s.update(here=here, lengths=[], down=False)
        return w

    def turn(self):
        here = self.s["here"]
        return 0 if here == END else [1, here] + list(self.s["places"][here][:2])

    def may(self):
        if self.s["here"] == END:
            return 0
        may, row = self.all_that_may_be(self.s["now"]), []
        ways = self.s["places"][self.s["here"]][2]
        for w in ways:
            row += [w, len([u for v, u in may if v == w])]
        return [len(ways)] + row

    def likely(self):
        words = {w for w, _ in self.all_that_may_be(self.s["now"])}
        return -11 if not words else -33 if len(words) > 1 else min(words)

    def said(self, k):
        return -2 if len(self.s["said"]) < k + 1 else [0] + list(self.s["said"][k][:3])

    def many(self):
        return len(self.s["said"])

    def units(self, c):
        if c not in range(self.s["p"]):
            return -22
        may = self.s["units"][c]
        return [len(may), min(may), max(may)]

    def lengths(self, c, w, room):
        if c not in range(self.s["p"]) or w not in range(len(self.s["words"])):
            return -22
        row = [k * min(self.s["units"][c]) for k in pattern(self.s["words"][w])]
        return -28 if len(row) > room else [len(row)] + row

    def letters(self, w):
        if w not in range(len(self.s["words"])):
            return -2
        return [len(self.s["words"][w])] + [ord(letter) for letter in self.s["words"][w]]

    def states(self, c):
        return -22 if c not in range(self.s["p"]) else len(self.s["parts"][c])

    def part(self, c, i):
        if c not in range(self.s["p"]):
            return -22
        return -2 if i not in range(len(self.s["parts"][c])) else [0] + self.s["parts"][c][i]


class Chance:
    """Lists of calls made by a seed: most make sense, some don't."""

    FEW = ["E", "T", "A", "N", "I", "M", "S", "O", "EE", "TT", "ET", "EN", "R", "K", "5", "0", "AN", "SOS"]

    def __init__(self, seed):
        self.pick = random.Random(seed)
        self.few = list(self.FEW)

    def places(self, p, n):
        """A script that may be kept or not; each place has as many ways as it happens to get."""
        places = []
        for _ in range(n):
            speaker, hearer = self.pick.sample(range(p), 2)
            words = self.pick.sample(self.few, self.pick.randint(1, 4))
            nexts = list(range(n)) + [END]
            places.append((speaker, hearer, {letters: self.pick.choice(nexts) for letters in words}))
        return places

    def range_of_units(self):
        lo = self.pick.randint(1, 12)
        hi = min(lo + self.pick.choice((0, 1, 3, 8, 30)), 4096)
        return dict(lo=lo, hi=hi, e=self.pick.randrange(lo))

    def told(self, p):
        """A script of p parties that can be kept."""
        while True:
            calls = script(self.places(p, self.pick.randint(1, 5)), p=p, **self.range_of_units())
            if Oracle().ask(calls + [OPEN])[-1] == 0:
                return calls

    def keyed(self, oracle, units):
        """Some calls that go on from where the oracle is: mostly the spelling of a word of the place."""
        s, pick = oracle.s, self.pick
        t = s["now"] + pick.choice((0, 0, 1, 5, 40))
        odd = pick.random()
        if odd < 0.08 or s["here"] == END:
            return [pick.choice((AGAIN, BACK, BACK, at(t), OPEN, word("E"), down(pick.randrange(3), t)))]
        c, _, ways = s["places"][s["here"]]
        if odd < 0.16:
            other = (c + 1) % s["p"]
            return [pick.choice((down(c, t), up(c, t), up(c, max(t - 3, 0)), at(max(t - 9, 0)), down(other, t)))]
        if s["lengths"] or s["down"]:
            return [AGAIN] if odd < 0.5 else [at(t + pick.randrange(4 * s["hi"] + s["e"]))]
        text = s["words"][pick.choice(list(ways))]
        off = (pick.randint(-s["e"], s["e"]) for _ in itertools.count())
        calls = spell(c, t, text, units[c], off)
        for cut in [k for k in range(1, len(calls)) if pick.random() < 0.1]:
            calls.insert(cut, at(calls[cut - 1][-1]))
        return calls + [at(ends(calls) + pick.randint(0, 3 * s["hi"] + s["e"] + 1) + pick.choice((0, 0, s["hi"])))]

    def asked(self, oracle):
        """A call that asks something, mostly something that's there."""
        pick, s = self.pick, oracle.s
        c, w = pick.randrange(s["p"] + 1), pick.randrange(len(s["words"]) + 1)
        k = pick.randrange(len(s["said"]) + 1 if s["open"] else 2)
        i = pick.randrange(len(s["parts"][c]) + 1 if s["open"] and c < s["p"] else 2)
        return pick.choice((TURN, MAY, MAY, LIKELY, LIKELY, MANY, said(k), units(c), units(c), states(c), part(c, i),
                            lengths(c, w, pick.randrange(24)), letters_of(w)))

    def talk(self, most, p):
        """A talk of p parties, of at most so many calls, and what the oracle answers of each."""
        calls = self.told(p) + [OPEN]
        oracle = Oracle()
        expected = oracle.ask(calls)
        units = [self.pick.randint(oracle.s["lo"], oracle.s["hi"]) for _ in range(p)]
        while len(calls) < most:
            more = self.keyed(oracle, units)[:most - len(calls)]
            expected += oracle.ask(more)
            calls += more
        return calls, expected
