"""A second way to the first item of a text that cannot stand: written from the document, with
patterns and fractions. Each function returns the index, or None for the text of a value."""

import re
from fractions import Fraction
from math import gcd

INTEGER = re.compile(r"(0|-?[1-9][0-9]{0,59})\Z", re.ASCII)
BROKEN = re.compile(r"(-?[1-9][0-9]{0,59})/([1-9][0-9]{0,59})\Z", re.ASCII)


class Stop(Exception):
    pass


class Row:
    def __init__(self, text):
        self.rows = text.split(" ")
        self.at = 0

    def next(self):
        if self.at == len(self.rows):
            raise Stop(self.at)
        self.at += 1
        return self.rows[self.at - 1]

    def want(self, so):
        if not so:
            raise Stop(self.at - 1)

    def number(self):
        item = self.next()
        whole, broken = INTEGER.match(item), BROKEN.match(item)
        self.want(whole or broken)
        if whole:
            return Fraction(int(item))
        above, below = int(broken.group(1)), int(broken.group(2))
        self.want(below > 1 and gcd(above, below) == 1)
        return Fraction(above, below)

    def index(self, many):
        item = self.next()
        self.want(INTEGER.match(item) and 0 <= int(item) < many)
        return int(item)

    def word(self, *words):
        item = self.next()
        self.want(item in words)
        return item

    def piece(self):
        begin, end = self.number(), self.number()
        self.want(begin < end)
        left = (self.number(), self.number())
        right = [self.number()]
        self.want(right[0] >= left[0])
        right.append(self.number())
        self.want(right[1] >= left[1])
        return (begin, end, left, tuple(right))

    def whole(self):
        if self.at < len(self.rows):
            raise Stop(self.at)


def first_wrong(text, reading):
    row = Row(text)
    try:
        reading(row)
        row.whole()
    except Stop as stop:
        return stop.args[0]
    return None


def piece_item(text):
    return first_wrong(text, Row.piece)


def front_item(text):
    return None if text == "-" else first_wrong(text, reading_front)


def reading_front(row):
    if row.rows[0] == "-":
        raise Stop(1)
    corners = []
    last = None
    while True:
        if corners and row.at == len(row.rows):
            return
        if corners and row.rows[row.at] == "/":
            row.next()
            corners = []
        place = row.number()
        row.want(last is None or place > last)
        last = place
        corners.append((place, row.number()))
        if len(corners) > 2:
            (x, t), (y, u), (z, v) = corners[-3:]
            row.want((u - t) / (y - x) != (v - u) / (z - y))


def world_item(text):
    return first_wrong(text, reading_world)


def reading_world(row):
    row.word("piece")
    pieces, links, word = [], [], "piece"
    while word == "piece":
        pieces.append(row.piece())
        row.word("/")
        word = row.word("piece", "link", "start")
    while word == "link":
        one, other = row.index(len(pieces)), row.index(len(pieces))
        row.want(one != other)
        window = row.piece() if row.word("/", "piece") == "piece" else None
        if window is not None:
            row.word("/")
        links.append((one, other, window))
        word = row.word("link", "start")
    moment, place, number = row.number(), row.number(), row.index(len(pieces))
    row.word("/")
    row.word("goals")
    before = -1
    while row.at < len(row.rows):
        goal = row.index(len(pieces))
        row.want(goal > before)
        before = goal
    begin, end, left, right = pieces[number]
    way = (moment - begin) / (end - begin)
    fits = begin <= moment <= end and (
        left[0] + way * (left[1] - left[0]) <= place <= right[0] + way * (right[1] - right[0]))
    if not fits or len(pieces) > 60 or len(links) > 600 or len(set(links)) < len(links):
        raise Stop(len(row.rows) - 1)


def level_item(text):
    return first_wrong(text, reading_level)


def reading_level(row):
    row.word("level")
    end = row.number()
    row.want(end > 0)
    row.word("/")
    kind, lanes, bodies = row.word("road", "river"), [], 0
    while kind in ("road", "river"):
        wide = row.number()
        row.want(wide > 0)
        row.word("/")
        lanes.append((kind, wide, []))
        while True:
            words = (["body"] if bodies < 24 else []) + (["road", "river"] if len(lanes) < 8 else []) + ["lift", "key", "start"]
            kind = row.word(*words)
            if kind != "body":
                break
            bodies += 1
            piece = row.piece()
            lock = row.index(2) if row.word("/", "lock") == "lock" else None
            if lock is not None:
                row.word("/")
            lanes[-1][2].append((piece, lock))
    word, lifts, keys = kind, [], 0
    while word == "lift":
        one, other = row.index(len(lanes)), row.index(len(lanes))
        row.want(one != other)
        lifts.append((one, other, row.piece()))
        row.word("/")
        word = row.word(*(["lift"] if len(lifts) < 12 else []), "key", "start")
    while word == "key":
        row.index(len(lanes))
        row.piece()
        row.word("/")
        keys += 1
        word = row.word(*(["key"] if keys < 2 else []), "start")
    lane, place = row.index(len(lanes)), row.number()
    row.word("/")
    row.word("goals")
    before = -1
    while before == -1 or row.at < len(row.rows):
        goal = row.index(len(lanes))
        row.want(goal > before)
        before = goal
    locks = [lock for _, _, rows in lanes for _, lock in rows if lock is not None]
    if len(set(lifts)) < len(lifts) or any(lock >= keys for lock in locks) or not is_free_at_first(lanes[lane], end, place):
        raise Stop(len(row.rows) - 1)


def is_free_at_first(lane, end, place):
    """Whether a place is free at moment 0: just behind it the bodies leave or make room that begins there."""
    kind, wide, bodies = lane
    here = []
    for (begin, last, left, right), _ in bodies:
        if begin <= 0 < last:
            paces = [(edge[1] - edge[0]) / (last - begin) for edge in (left, right)]
            here.append([(edge[0] - pace * begin, pace) for edge, pace in zip((left, right), paces)])
    zero, far = (Fraction(0), Fraction(0)), (wide, Fraction(0))
    # Places just behind moment 0 are pairs (place, pace), which compare as they will lie.
    if kind == "river":
        return any(low[0] <= place <= high[0] and low <= far and high >= zero and 0 <= place <= wide for low, high in here)
    at = zero
    for low, high in sorted(pair for pair in here if pair[0] < pair[1]):
        if low > at and at < far and at[0] <= place <= min(low, far)[0]:
            return True
        at = max(at, high)
    return at < far and at[0] <= place <= wide


def commands_item(text):
    return None if text == "-" else first_wrong(text, reading_commands)


def reading_command(row, links):
    """A command; links is how many there are, None for any number."""
    word = row.word("run", "hop", "on")
    if word == "hop":
        row.index(10 ** 60 if links is None else links)
    else:
        value = row.number()
        row.want(value >= 0 if word == "on" else -1 <= value <= 1)


def reading_commands(row):
    if row.rows[0] == "-":
        raise Stop(1)
    reading_command(row, None)
    while row.at < len(row.rows):
        row.word("/")
        reading_command(row, None)


def line_item(world):
    """For a world the way to the first item of a line that cannot stand."""
    def reading_line(row):
        if row.rows[0] in ("run", "hop", "on"):
            return reading_command(row, len(world.links))
        word = row.word("where", "fate", "won", "play", "links", "soonest", "still", "front", "scene")
        if word == "front":
            row.index(len(world.pieces))
        if word in ("front", "scene"):
            row.number()
    return lambda text: first_wrong(text, reading_line)


MUCH = "1" + "0" * 60
WORDS = ("run", "hop", "on", "where", "fate", "won", "play", "links", "soonest", "still", "front", "scene")
PUT_IN = ("", "-", "/", "x", "3/2", "-3/2", "2/3", *WORDS, "piece", "link", "start", "goals", "level", "road", "river", "body", "lock", "lift", "key", "0", "1", "2", "-1", "7", "99", "1/2", "-7/2", "4/2", "3/1",
          "+1", "01", "-0", "1/0", "None", "PIECE", "9" * 60, MUCH, "-" + MUCH, "1/" + MUCH, "\u0661", "1\n", "\t", "1.0")


SIGNS = ("", " ", "-", "/", "0", "1", "9", "r", "o", "+", ".", "A", "\n")


def bent_signs(text):
    """The text with each sign exchanged for others, left out or doubled, and with others put ahead of it."""
    for at in range(len(text) + 1):
        for sign in SIGNS:
            yield text[:at] + sign + text[at + 1:]
            yield text[:at] + sign + text[at:]
        yield text[:at + 1] + text[at:]
        yield text[:at] + text[at:at + 2][::-1] + text[at + 2:]


def bent(text):
    """The text with each item exchanged for others, left out, doubled, exchanged with the next, and so on."""
    rows = text.split(" ")
    for at in range(len(rows)):
        for item in PUT_IN:
            yield " ".join(rows[:at] + [item] + rows[at + 1:])
            yield " ".join(rows[:at] + [item] + rows[at:])
        yield " ".join(rows[:at] + rows[at + 1:])
        yield " ".join(rows[:at] + [rows[at], rows[at]] + rows[at + 1:])
        yield " ".join(rows[:at] + rows[at:at + 2][::-1] + rows[at + 2:])
        yield " ".join(rows[:at])
    for item in PUT_IN:
        yield text + " " + item
        yield text + " / " + item
    yield text + " " + text
    yield text + " / " + text
    yield text + "  "
    yield text.replace(" ", "\t")
    yield text.replace(" ", "\n")
