import random
import unittest

from grounds import drawn_level, world_by_words
from helper import NO_NUMBERS, ODDITIES, LaneCase
from lanecross.compiled import whence, world_of
from lanecross.errors import BadLevel, BadNumber, Misfit, TooMany
from lanecross.lanes import Body, Lane
from lanecross.level_edits import ended, in_the_way, unlocked, without_body
from lanecross.levels import Level
from lanecross.pieces import Piece
from lanecross.tables import soonest_by
from lanecross.worlds import World
from reference import frac, has

CAR, HERE = Piece(1, 4, (0, 3), (2, 5)), Piece(0, 6, (0, 0), (4, 4))
BANK, STREET, LOCKED = Lane("road", 4), Lane("road", 4, [Body(CAR)]), Lane("river", 4, [Body(HERE), Body(CAR, 0), Body(CAR, 1)])
FULL = Level([BANK, LOCKED, STREET], 6, [(0, 2, CAR), (2, 0, HERE)], [(0, HERE), (1, CAR)], (1, (1, 2)), [0, 2])
PIECES, LINKS = {"what": "pieces", "most": 48}, {"what": "links", "most": 600}


def text_without(level, lane, body):
    """The text of a level without a part for this body."""
    parts, at, found = str(level).split(" / "), -1, 0
    for index, part in enumerate(parts):
        word = part.split(" ")[0]
        if word in ("road", "river"):
            at, found = at + 1, -1
        if word == "body":
            found += 1
            if (at, found) == (lane, body):
                return " / ".join(parts[:index] + parts[index + 1:])
    raise AssertionError


def soonest_of(level):
    """The soonest moment of a level, of a world by the words of the document."""
    of, pieces, links = world_by_words(level)
    lane, place = level.start
    start = min(at for at, (keys, own) in enumerate(of) if keys == () and own == lane and has(pieces[at], 0, frac(place)))
    return soonest_by(World(pieces, links, (0, place, start), [at for at, (_, lane) in enumerate(of) if lane in level.goals]))


def small_levels(seed, many, lanes=3, most=2, keys=2):
    """Levels whose worlds are not too great, nor those without a body."""
    source = random.Random(seed)
    while many:
        level = drawn_level(source, lanes, most, keys)
        try:
            if len(whence(level)) <= 30:
                in_the_way(level)
                many -= 1
                yield source, level
        except TooMany:
            continue


class ChangedTest(LaneCase):
    def parts(self, level):
        return [level.lanes, level.end, level.lifts, level.keyring, level.start, level.goals]

    def check_level(self, level, wanted, told, *args):
        """Attribute by attribute; the level stays as it is."""
        before = str(level)
        found = told(level, *args)
        self.assertIsInstance(found, Level)
        for one, other in zip(self.parts(found), wanted):
            self.assertTrue(one == other)
        self.assertEqual(str(level), before)

    def lanes_with(self, level, kept):
        return tuple(Lane(lane.kind, lane.wide, [body for index, body in enumerate(lane.bodies) if kept(at, index, body)]) for at, lane in enumerate(level.lanes))

    def check_changed(self, level, lanes, told, *args):
        parts = self.parts(level)
        try:
            Level(lanes, *parts[1:])
        except Misfit as error:
            self.check_part(Misfit, error.part, told, level, *args)
            return False
        self.check_level(level, [lanes, *parts[1:]], told, *args)
        return True

    def test_without_body(self):
        source = random.Random(961)
        made = misfits = 0
        for _ in range(100):
            level = drawn_level(source, 4, 3)
            for at, lane in enumerate(level.lanes):
                for index in range(len(lane.bodies)):
                    lanes = self.lanes_with(level, lambda one, other, _: (one, other) != (at, index))
                    so = self.check_changed(level, lanes, without_body, at, index)
                    if so:
                        self.assertEqual(str(without_body(level, at, index)), text_without(level, at, index))
                    made, misfits = made + so, misfits + (not so)
        self.assertTrue(made > 200 and misfits > 5, (made, misfits))

    def test_unlocked(self):
        source = random.Random(962)
        made = misfits = 0
        for _ in range(150):
            level = drawn_level(source, 3, 4)
            for key in range(len(level.keyring)):
                so = self.check_changed(level, self.lanes_with(level, lambda _, other, body: body.lock != key), unlocked, key)
                made, misfits = made + so, misfits + (not so)
        self.assertTrue(made > 100 and misfits > 2, (made, misfits))

    def test_ended(self):
        source = random.Random(963)
        for _ in range(60):
            level = drawn_level(source)
            for end in (1, (1, 3), [7, 2], 10 ** 40, (1, 10 ** 40), level.end):
                wanted = tuple(end) if isinstance(end, list) else end
                self.check_level(level, [level.lanes, wanted, *self.parts(level)[2:]], ended, end)
            self.assertTrue(ended(level, level.end) == level)
            self.assertTrue(ended(ended(level, 1), level.end) == level)

    def test_by_hand(self):
        self.assertEqual(str(without_body(level=FULL, lane=1, body=1)), "level 6 / road 4 / river 4 / body 0 6 0 0 4 4 / body 1 4 0 3 2 5 lock 1 / road 4 / "
                         "body 1 4 0 3 2 5 / lift 0 2 1 4 0 3 2 5 / lift 2 0 0 6 0 0 4 4 / key 0 0 6 0 0 4 4 / key 1 1 4 0 3 2 5 / start 1 1/2 / goals 0 2")
        self.assertTrue(unlocked(level=FULL, key=0) == without_body(FULL, 1, 1))
        self.assertTrue(unlocked(FULL, 1) == without_body(FULL, 1, 2))
        self.assertEqual(len(unlocked(FULL, 1).keyring), 2)
        self.assertEqual(ended(end=[1, 2], level=FULL).end, (1, 2))
        self.check_part(Misfit, "start", without_body, FULL, 1, 0)
        # A floor that takes nothing may go.
        self.assertTrue(without_body(Level([Lane("river", 4, [Body(HERE), Body(HERE)])], 6, [], [], (0, 1), [0]), 0, 1).lanes[0].bodies == (Body(HERE),))
        floor = Level([Lane("river", 4, [Body(HERE, 0), Body(CAR, 1)])], 6, [], [(0, HERE), (0, HERE)], (0, 1), [0])
        self.check_part(Misfit, "start", unlocked, floor, 0)
        self.assertTrue(unlocked(floor, 1) == without_body(floor, 0, 1))


class InTheWayTest(LaneCase):
    def test_drawn_levels(self):
        found = 0
        for _, level in small_levels(971, 45, 3, 3):
            moment, wanted = soonest_of(level), []
            for at, lane in enumerate(level.lanes):
                for index in range(len(lane.bodies)):
                    try:
                        other = soonest_of(Level.read(text_without(level, at, index)))
                    except ValueError:
                        continue
                    if other is not None and (moment is None or frac(other) < frac(moment)):
                        wanted.append((at, index))
            self.assertEqual(in_the_way(level), tuple(wanted))
            found += len(wanted)
        self.assertGreater(found, 0)

    def test_crowded_levels(self):
        """Roads on the way to a goal, with cars over all of them now and then."""
        source = random.Random(972)
        sooner = first = 0
        for _ in range(60):
            lanes = [BANK, *[Lane(source.choice(("road", "road", "river")), 4, [self.body(source) for _ in range(source.randint(1, 3))]) for _ in range(2)]]
            level = Level(lanes, 8, [], [(0, Piece(source.randint(0, 5), 6, (0, 0), (1, 1)))], (0, 1), [2])
            moment = soonest_of(level)
            others = {(at, index): soonest_of(Level.read(text_without(level, at, index))) for at in (1, 2) for index in range(len(lanes[at].bodies))}
            wanted = [body for body, other in sorted(others.items()) if other is not None and (moment is None or frac(other) < frac(moment))]
            self.assertEqual(in_the_way(level), tuple(wanted))
            sooner, first = sooner + bool(wanted and moment is not None), first + bool(wanted and moment is None)
        self.assertTrue(sooner > 10 and first > 3, (sooner, first))

    def body(self, source):
        begin = source.choice((0, 0, 0, 1, 3))
        left = source.choice((0, 0, 0, 1))
        return Body(Piece(begin, source.choice((4, 6, 8)), (left, source.choice((0, 0, 1))), (4, source.choice((4, 4, 3)))), source.choice((None, None, 0)))

    def test_by_hand(self):
        shut = Body(Piece(0, 3, (0, 0), (4, 4)))
        level = Level([BANK, Lane("road", 4, [shut, shut])], 6, [], [], (0, 1), [1])
        self.assertEqual(in_the_way(level=level), ())  # one of two that shut the same
        self.assertEqual(in_the_way(Level([BANK, Lane("road", 4, [shut])], 6, [], [], (0, 1), [0])), ())
        whole = Body(Piece(0, 6, (0, 0), (4, 4)))
        self.assertEqual(in_the_way(Level([Lane("road", 4, [Body(CAR)]), Lane("road", 4, [whole])], 6, [], [], (0, 1), [1])), ((1, 0),))
        # A car that ends before the other one, within it; and one that lasts longer.
        self.assertEqual(in_the_way(Level([BANK, Lane("road", 4, [shut, Body(Piece(0, 4, (0, 0), (4, 4)))])], 6, [], [], (0, 1), [1])), ((1, 1),))
        # Without its floor the start is none: it is not in the way.
        floor = Level([Lane("river", 4, [Body(HERE)]), Lane("road", 4, [whole])], 6, [], [], (0, 1), [1])
        self.assertEqual(in_the_way(floor), ((1, 0),))
        # Of two floors that lead on together each one is no hindrance, but a help.
        self.assertEqual(in_the_way(Level([BANK, Lane("river", 4, [Body(HERE)]), BANK], 6, [], [], (0, 1), [2])), ())

    def test_many(self):
        """A level of too many pieces, with or without a body: the level comes first, then body by body."""
        cars = [Body(Piece(2 * at + 1, 2 * at + 2, (1, 1), (2, 2))) for at in range(16)]
        full = Level([Lane("road", 3, cars)], 32, [], [], (0, 0), [0])
        self.assertEqual(in_the_way(full), ())
        self.check_raises(TooMany, PIECES, in_the_way, ended(full, 33))
        # A wall over all of a lane hides cars that are behind it: without it there are too many pieces.
        wall = Body(Piece(0, 40, (0, 0), (3, 3)))
        hidden = Level([BANK, Lane("road", 3, [*cars, wall])], 32, [], [], (0, 0), [0])
        self.assertEqual(len(world_of(hidden).pieces), 1)
        self.check_raises(TooMany, PIECES, in_the_way, hidden)
        # Floors that lie in one another: without the great one there are too many links by lifts.
        floors = [Body(Piece(0, 9, (2 * at, 2 * at), (2 * at + 1, 2 * at + 1))) for at in range(22)]
        lifts = [(0, 1, Piece(0, at + 1, (0, 0), (60, 60))) for at in range(12)]
        great = Body(Piece(0, 9, (0, 0), (60, 60)))
        key = [(0, Piece(0, 9, (1, 1), (1, 1)))]
        level = Level([Lane("road", 60), Lane("river", 60, [*floors, great])], 8, lifts, key, (0, 1), [1])
        self.assertEqual(len(world_of(level).pieces), 4)
        self.check_raises(TooMany, LINKS, world_of, without_body(level, 1, 22))
        self.check_raises(TooMany, LINKS, in_the_way, level)
        # The first body without which there are too many tells what.
        both = Level([Lane("road", 60), Lane("river", 60, [great, *floors]), Lane("road", 3, [])], 8, lifts, key, (0, 1), [1])
        self.check_raises(TooMany, LINKS, in_the_way, both)


class RefusedTest(LaneCase):
    def test_levels(self):
        for value in (*ODDITIES, BANK, str(FULL), Level, world_of(FULL)):
            self.check_part(BadLevel, "level", in_the_way, value)
            self.check_part(BadLevel, "level", without_body, value, None, None)
            self.check_part(BadLevel, "level", unlocked, value, None)
            self.check_part(BadLevel, "level", ended, value, None)

    def test_lanes_and_bodies(self):
        for value in (*ODDITIES, 3, -1, (0, 1), 10 ** 60):
            self.check_part(BadNumber, "lane", without_body, FULL, value, None)
        for value in (*ODDITIES, 3, -1, (0, 1), 10 ** 60):
            self.check_part(BadNumber, "body", without_body, FULL, 1, value)
        for lane, value in ((0, 0), (2, 1), (0, -1)):
            self.check_part(BadNumber, "body", without_body, FULL, lane, value)

    def test_keys_and_ends(self):
        for value in (*ODDITIES, 2, -1, (0, 1), 10 ** 60):
            self.check_part(BadNumber, "key", unlocked, FULL, value)
        self.check_part(BadNumber, "key", unlocked, Level([BANK], 6, [], [], (0, 1), [0]), 0)
        for value in (*NO_NUMBERS, 0, -1, (-1, 2), -10 ** 60):
            if value not in ((1, 2), [1, 2]):
                self.check_part(BadNumber, "end", ended, FULL, value)


if __name__ == "__main__":
    unittest.main()
