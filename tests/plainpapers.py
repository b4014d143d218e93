"""What points 69 to 74 say of papers, in plain words, and papers that are changed a little."""

import itertools

import plain


def is_pairing(found, n):
    return sorted(found) == list(range(n))


def marks_of(mine, theirs, pairing):
    return [plain.won(mine, theirs, m, t) for m, t in enumerate(pairing)]


def winners_of(mine, theirs, pairing):
    return [m for m, mark in enumerate(marks_of(mine, theirs, pairing)) if mark]


def height(mine, theirs, place):
    """The height of a place, or None if there is no such place."""
    walk = plain.plain_heights(mine, theirs)
    return walk[place] if place in range(len(walk)) else None


def span_is_shown(mine, theirs, paper):
    """Point 69."""
    _, least, low_place, low_pairing, most, high_place, high_pairing = paper
    n = len(mine)
    return (is_pairing(low_pairing, n) and plain.count_won(mine, theirs, low_pairing) == least
            and height(mine, theirs, low_place) == least
            and is_pairing(high_pairing, n) and plain.count_won(mine, theirs, high_pairing) == most
            and height(mine, theirs, high_place) == most - n)


def row_is_shown(mine, theirs, paper):
    """Point 70."""
    _, row, mates = paper
    levels = {side: plain.plain_levels(mine, theirs, side) for side in ("mine", "theirs")}
    return (is_pairing(mates, len(mine)) and all(levels["mine"][m] == levels["theirs"][t] for m, t in enumerate(mates))
            and row == sorted(levels["mine"]))


def value_is_shown(mine, theirs, paper):
    """Point 70, with the value of point 26."""
    _, word, many, value, row, mates = paper
    n = len(mine)
    if not row_is_shown(mine, theirs, ("row", row, mates)) or len(word) != n or set(word) - {"M", "T"}:
        return False
    if many not in ("mine", "theirs"):
        return False
    own = word[:-1].count("M" if many == "mine" else "T")
    return value == (n - 1 - own + 1 + row[own] if n else 0)


def breaks(mine, theirs, cards, place):
    """Point 52: whether one of the two conditions fails at the place, if there is such a place."""
    if height(mine, theirs, place) is None:
        return False
    below = plain.plain_deck(mine, theirs)[:place]
    low = sum(1 for m in cards if ("mine", m) in below)
    their_count = sum(1 for side, _ in below if side == "theirs")
    return low > their_count or len(cards) - low < height(mine, theirs, place)


def winners_are_shown(mine, theirs, paper):
    """Point 71."""
    head, cards, shown = paper
    if cards != sorted(set(cards)) or not set(cards) <= set(range(len(mine))):
        return False
    if head == "winners":
        return is_pairing(shown, len(mine)) and winners_of(mine, theirs, shown) == cards
    return breaks(mine, theirs, cards, shown)


def listed(mine, theirs, pairing, place):
    """The lost pairs that lie across the place and the won pairs that do not."""
    below = plain.plain_deck(mine, theirs)[:place]
    marks = marks_of(mine, theirs, pairing)
    return [(m, t) for m, t in enumerate(pairing)
            if ((("mine", m) in below) + (("theirs", t) in below) == 1) != marks[m]]


def reserve_is_shown(mine, theirs, paper):
    """Point 72."""
    _, pairs, place, pairing = paper
    if not is_pairing(pairing, len(mine)) or height(mine, theirs, place) is None:
        return False
    won = plain.count_won(mine, theirs, pairing)
    return height(mine, theirs, place) == won - len(pairs) and pairs == listed(mine, theirs, pairing, place)


class Told:
    """Point 73: what a telling says of each place of the hands that are left."""

    def __init__(self, mine, theirs, pairs, won, lost):
        gone = [("mine", m) for m, _ in pairs] + [("theirs", t) for _, t in pairs]
        self.cards = [card for card in plain.plain_deck(mine, theirs) if card not in gone]
        self.won, self.lost = list(won), list(lost)
        self.sure = sum(plain.won(mine, theirs, m, t) for m, t in pairs) + len(won)
        self.places = range(len(self.cards) + 1)

    def count(self, place, kind, below):
        found = 0
        for side, index in self.cards[:place] if below else self.cards[place:]:
            mark = side
            if side == "mine":
                mark = "won" if index in self.won else "lost" if index in self.lost else "open"
            found += mark == kind
        return found

    def demand(self, place):
        mine_below = sum(self.count(place, kind, True) for kind in ("won", "lost", "open"))
        return self.count(place, "theirs", True) - mine_below - self.count(place, "won", False)

    def room(self, place):
        return self.count(place, "open", False) + self.count(place, "theirs", True) - self.count(place, "won", True)

    def exists(self, reason, place):
        if reason == "winners":
            return place in self.places and self.count(place, "won", True) > self.count(place, "theirs", True)
        return reason == "height" and place in self.places and self.demand(place) > self.count(place, "open", False)


def agrees(mine, theirs, pairing, pairs, won, lost):
    marks = marks_of(mine, theirs, pairing)
    return (all(pairing[m] == t for m, t in pairs) and all(marks[m] for m in won)
            and not any(marks[m] for m in lost))


def telling_is_shown(mine, theirs, paper, pairs=(), won=(), lost=()):
    """Point 74."""
    told, n = Told(mine, theirs, pairs, won, lost), len(mine)
    if paper[0] == "contradiction":
        return told.exists(*paper[1:])
    _, lowest, low_place, low_pairing, highest, high_place, high_pairing = paper
    for pairing, result in ((low_pairing, lowest), (high_pairing, highest)):
        if not is_pairing(pairing, n) or not agrees(mine, theirs, pairing, pairs, won, lost):
            return False
        if plain.count_won(mine, theirs, pairing) != result:
            return False
    return (low_place in told.places and lowest == told.sure + told.demand(low_place)
            and high_place in told.places and highest == told.sure + told.room(high_place))


def changed_numbers(number):
    return [number - 1, number + 1, -number - 1, number + 50, number - 10 ** 15]


def changed_lists(entries):
    """Lists that differ from a list a little: in an entry, in the order, in the length."""
    found = [entries[::-1], [], entries + entries, entries[1:], entries[:-1]]
    for k, entry in enumerate(entries):
        found += [entries[:k] + [entry] + entries[k:], entries[:k] + entries[k + 1:]]
        if isinstance(entry, tuple):
            found += [entries[:k] + [part] + entries[k + 1:] for part in ((entry[0] + 1, entry[1]),
                                                                          (entry[0], entry[1] - 1), entry[::-1])]
        else:
            found += [entries[:k] + [number] + entries[k + 1:] for number in changed_numbers(entry)]
    for k in range(len(entries) - 1):
        found.append(entries[:k] + [entries[k + 1], entries[k]] + entries[k + 2:])
    if not entries or isinstance(entries[0], int):
        found += [entries + [number] for number in (-1, 0, len(entries), 10 ** 15)]
    return [part for part in found if part != entries]


def changed_texts(text, others):
    found = [text + "M", text[:-1], "x" + text[1:], text[1:] + "m", text[::-1], text.replace("M", "T"), "", *others]
    return [part for part in found if part != text]


def changed(paper):
    """Papers of the same form in which one entry is another one."""
    found = []
    for k, entry in enumerate(paper):
        if k == 0:
            continue
        if isinstance(entry, int):
            parts = changed_numbers(entry)
        elif isinstance(entry, list):
            parts = changed_lists(entry)
        else:
            parts = changed_texts(entry, ("mine", "theirs", "winners", "height", "M", "T"))
        found += [(*paper[:k], part, *paper[k + 1:]) for part in parts]
    return found


def changed_twice(paper):
    """Papers in which two entries are other ones: some of them are right again."""
    first = changed(paper)
    return list(itertools.chain.from_iterable(changed(part) for part in first[::5]))


def some_tellings(source, mine, theirs, count):
    """Tellings, some with which no pairing agrees, in lists that are not always ascending."""
    found, n = [((), (), ())], len(mine)
    for _ in range(count):
        cards, partners = source.sample(range(n), n), source.sample(range(n), n)
        cuts = sorted(source.randint(0, n) for _ in range(3))
        pairs = list(zip(cards[:cuts[0]], partners))
        won, lost = cards[cuts[0]:cuts[1]], cards[cuts[1]:cuts[2]]
        found.append((pairs, won, lost) if source.random() < 0.7 else (tuple(pairs), tuple(won), tuple(lost)))
    return found
