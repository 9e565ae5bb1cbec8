"""Values that many tests use, and slow answers of their own to compare with."""

import itertools

LETTERS = "ABCDabcd"

PAIRS = ("aA", "Aa", "bB", "Bb", "cC", "Cc", "dD", "Dd")

# None of these is a word.
NO_WORDS = (
    None, True, False, 0, 1, -3, 10 ** 60, "e", "a b", "ab1", " a", "a\n", "aE", "\u00e4", "-", b"a",
    [], ["a"], (), ("a",), {}, {"a": 1}, [["a"], ("b",)],
)

# These are words, but no places.
NO_REDUCED = ("aA", "Aa", "aAb", "bcC", "abBc", "dD", "abcDd")

# None of these is a tread.
NO_TREADS = (
    None, True, False, 0, 7, 10 ** 60, "", "a", "word", (), [], {}, {"": ""},
    # other kinds in the place of tuples and strings
    (None, ""), (0, ""), (True, ""),
    [("",), ""], ([""], ""), [[""], ""], ({"": ""}, ""), ("", ""), ((("",),), ""), ((("",), ""),),
    (("",), None), (("",), 0), (("",), False), (("",), ("",)), (("",), [""]), ((None,), None), ((True,), True),
    ((0,), 0), (("", 1), ""), (("", None), ""), (("", ("a",)), ""), (("", ["a"]), ""), ((("", ""), ""),),
    (("", b"a"), ""), (("", {"a": 1}), ""), (("", "a"), b"a"),
    # more or fewer parts
    (("",),), (("",), "", ""), (("",), "", None), ("", ("",)),
    # no places, or none without its last letter
    ((), ""), (("a",), "a"), (("aa",), "aa"), (("", "ab"), ""), (("", "a", "aab"), ""), (("a", "ab"), "a"),
    # no order, or one place twice
    (("a", ""), ""), (("", "a", "A"), ""), (("", "b", "a"), ""), (("", "a", "ab", "b"), ""),
    (("", "a", "aa", "aB"), ""), (("", ""), ""), (("", "a", "a"), "a"),
    # what is no place
    (("", "e"), ""), (("", "a", "aA"), ""), (("", "a", "aA", "aAb"), ""), (("", " "), ""), (("", "1"), ""),
    # an end that is none of its places
    (("",), "a"), (("", "a"), "A"), (("", "a"), "ab"), (("", "a", "ab"), "b"), (("", "a"), "aA"), (("", "a"), "x"),
)

NO_INTEGERS = (None, True, False, "", "1", "e", b"1", [], [1], (), (1,), {}, {1: 1})


def words_up_to(length, letters=LETTERS):
    """Return all words of at most so many letters."""
    return ["".join(row) for n in range(length + 1) for row in itertools.product(letters, repeat=n)]


def mixed_word(seed, length, letters=LETTERS):
    """Return a word of so many letters, the same one each time, that looks like any other."""
    chosen = []
    for _ in range(length):
        seed = (seed * 6364136223846793005 + 1442695040888963407) % 2 ** 64
        chosen.append(letters[(seed >> 33) % len(letters)])
    return "".join(chosen)


def slow_reduced(word):
    """Leave one pair after another out, until there is none."""
    while any(pair in word for pair in PAIRS):
        for pair in PAIRS:
            word = word.replace(pair, "", 1)
    return word


def slow_tread(word):
    """Reduce each beginning by itself."""
    places = {slow_reduced(word[:k]) for k in range(len(word) + 1)}
    return (tuple(sorted(places, key=lambda place: (len(place), place))), slow_reduced(word))


def slow_rest(word, tread):
    """Try all words behind a word, shorter ones first, those of one length as strings."""
    places, end = tread
    trodden, place = slow_tread(word)
    if not set(trodden) <= set(places):
        return None
    rows = [("", place, frozenset(trodden))]
    known = {rows[0][1:]}
    while rows:
        following = []
        for rest, place, trodden in rows:
            if place == end and len(trodden) == len(places):
                return rest
            for letter in LETTERS:
                behind = slow_reduced(place + letter)
                state = (behind, trodden | {behind})
                # Of two words to one state, the first one met is ahead of the other.
                if behind in places and state not in known:
                    known.add(state)
                    following.append((rest + letter,) + state)
        rows = following
    raise AssertionError("each tread is that of some word")


def path_tread(length):
    """Return the tread of a straight walk of so many letters, which may be more than 200."""
    return (tuple("a" * k for k in range(length + 1)), "a" * length)


def wide_tread(number):
    """Return a tread with the first so many places in the order, ending at the empty one."""
    places = [""]
    for place in places:
        if len(places) >= number:
            break
        places.extend(place + letter for letter in LETTERS if not place.endswith(letter.swapcase()))
    return (tuple(places[:number]), "")


def sample_treads():
    """Return treads of many forms, small and large ones."""
    words = words_up_to(2) + ["abBA", "abBc", "bBaAa", "aabBAAbcd", "dDcCbBaA"]
    words = words + [mixed_word(seed, 4 + 9 * seed) for seed in range(1, 9)]
    return [slow_tread(word) for word in words]


def in_order(places):
    """Return places as an ascending tuple."""
    return tuple(sorted(places, key=lambda place: (len(place), place)))


def places_within(places):
    """Return all tuples of some of the places that can be those of a tread."""
    rows = [("",)]
    for place in in_order(places)[1:]:
        rows.extend([row + (place,) for row in rows if place[:-1] in row])
    return rows


def treads_within(places):
    """Return all treads with places among some, which are those of a tread."""
    return [(row, end) for row in places_within(places) for end in row]


def slow_seen(tread, place):
    """Walk from the place to the empty one ahead of each place."""
    places, end = tread
    start = slow_back(place)
    return (in_order({slow_reduced(start + goal) for goal in places}), slow_reduced(start + end))


def slow_back(word):
    """Return the back of a word."""
    return word[::-1].swapcase()


def some_word(tread):
    """Return a word with a tread, which goes to each place and back."""
    places, end = tread
    return "".join(place + slow_back(place) for place in places) + end


def in_numbers(treads):
    """Return treads in the order of their numbers: what lacks the first place comes first."""
    pool = in_order({place for tread in treads for place in tread[0]})
    return sorted(treads, key=lambda tread: [place in tread[0] for place in pool])


def slow_solutions(one, other, goal):
    """Try all treads with places that the goal's are seen as from one's end, in their order."""
    pool = in_order({slow_reduced(slow_back(one[1]) + place) for place in goal[0]})
    if "" not in pool:
        return []
    found = []
    for tread in treads_within([place for place in pool if all(place[:k] in pool for k in range(len(place)))]):
        if slow_tread(some_word(one) + some_word(tread) + some_word(other)) == goal:
            found.append(tread)
    return in_numbers(found)
