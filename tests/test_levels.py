import random
import unittest

from drawn import as_lists
from grounds import cuts_by_words, drawn_level, free_by_words, lots
from helper import NO_NUMBERS, ODDITIES, LaneCase
from lanecross.errors import BadLevel, BadNumber, Misfit, Twice
from lanecross.lanes import Body, Lane
from lanecross.levels import Level, free_at
from lanecross.pieces import Piece
from reference import frac, number

CAR, HERE = Piece(1, 4, (0, 3), (2, 5)), Piece(0, 6, (0, 0), (4, 4))
BANK, STREET, LOCKED = Lane("road", 4), Lane("road", 4, [Body(CAR)]), Lane("river", 4, [Body(HERE), Body(CAR, 0), Body(CAR, 1)])
LEVEL = Level([BANK, STREET], 6, [], [], (0, 1), [1])
FULL = Level([BANK, LOCKED, STREET], 6, [(0, 2, CAR), (2, 0, HERE)], [(0, HERE), (1, CAR)], (1, (1, 2)), [0, 2])


class PartsTest(LaneCase):
    def test_attributes(self):
        lanes, lifts, keyring, start, goals = [BANK, LOCKED], [[0, 1, CAR], (1, 0, HERE)], [[0, HERE], (1, CAR)], [1, [1, 2]], [0, 1]
        level = Level(lanes, [13, 2], lifts, keyring, start, goals)
        self.assertTrue(level.lanes == (BANK, LOCKED))
        self.assertEqual((level.end, level.start, level.goals), ((13, 2), (1, (1, 2)), (0, 1)))
        self.assertTrue(level.lifts == ((0, 1, CAR), (1, 0, HERE)) and level.keyring == ((0, HERE), (1, CAR)))
        for part in (level.lanes, level.lifts, *level.lifts, level.keyring, *level.keyring, level.start, level.goals):
            self.assertIsInstance(part, tuple)
        lanes.clear(), lifts[0].clear(), lifts.clear(), keyring[0].clear(), keyring.clear(), start[1].clear(), start.clear(), goals.clear()
        self.assertTrue(level == Level((BANK, LOCKED), (13, 2), ((0, 1, CAR), [1, 0, HERE]), [(0, HERE), [1, CAR]], (1, [1, 2]), (0, 1)))
        self.assertTrue(level == Level(goals=[0, 1], start=(1, (1, 2)), keyring=[(0, HERE), (1, CAR)], lifts=[(0, 1, CAR), (1, 0, HERE)], end=(13, 2),
                                       lanes=[BANK, LOCKED]))

    def test_equal(self):
        parts = ([BANK, LOCKED, STREET], 6, [(0, 2, CAR), (2, 0, HERE)], [(0, HERE), (1, CAR)], (1, (1, 2)), [0, 2])
        self.assertTrue(FULL == Level(*parts))
        self.assertFalse(FULL != Level(*parts))
        for at, others in enumerate(([[STREET, LOCKED, BANK], [BANK, LOCKED, STREET, BANK]], [5, (13, 2)], [[], parts[2][::-1], [(0, 2, CAR)], [(0, 2, HERE), (2, 0, HERE)]],
                                     [[(1, CAR), (0, HERE)], [(0, HERE), (1, HERE)]], [(1, 0), (0, (1, 2))], [[0], [2], [0, 1, 2]])):
            for other in others:
                self.assertFalse(FULL == Level(*parts[:at], other, *parts[at + 1:]))
        for other in (None, 0, str(FULL), parts, BANK):
            self.assertFalse(FULL == other)
            self.assertTrue(FULL != other)
        for name in ("__init__", "__eq__", "__str__", "read"):
            self.assertIn(name, vars(Level))

    def test_texts(self):
        source = random.Random(701)
        for _ in range(150):
            level = drawn_level(source)
            self.assertTrue(Level.read(str(level)) == level)
            self.assertEqual(str(Level.read(str(level))), str(level))
        self.assertEqual(str(FULL), "level 6 / road 4 / river 4 / body 0 6 0 0 4 4 / body 1 4 0 3 2 5 lock 0 / body 1 4 0 3 2 5 lock 1 / road 4 / body 1 4 0 3 2 5 / "
                         "lift 0 2 1 4 0 3 2 5 / lift 2 0 0 6 0 0 4 4 / key 0 0 6 0 0 4 4 / key 1 1 4 0 3 2 5 / start 1 1/2 / goals 0 2")


class RefusedTest(LaneCase):
    def test_lanes(self):
        for value in (*ODDITIES, BANK, [BANK, None], [BANK, CAR], {0: BANK}, [[BANK]], [BANK] * 9, [Lane("road", 4, [Body(CAR)] * 13)] * 2, (LEVEL,),
                      [*[BANK] * 7, Lane("river", 4, [Body(CAR)] * 24), Lane("river", 4, [Body(CAR)])]):
            self.check_part(BadLevel, "lanes", Level, value, None, None, None, None, None)
        for value in ([BANK] * 8, [Lane("road", 4, [Body(CAR)] * 12)] * 2, [*[BANK] * 7, Lane("river", 4, [Body(CAR)] * 24)]):
            self.assertEqual(len(Level(value, 6, [], [], (0, 1), [0]).lanes), len(value))
        self.check_part(BadLevel, "lanes", Level, [BANK] * 9, 6, [], [], (0, 1), [0])

    def test_end(self):
        for value in (*NO_NUMBERS, 0, -1, (-1, 2), -10 ** 60):
            if value not in ((1, 2), [1, 2]):
                self.check_part(BadNumber, "end", Level, [BANK], value, None, None, None, None)

    def test_lifts(self):
        for value in (*ODDITIES, [()], [(0, 1)], [(0, 1, None)], [(0, 0, CAR)], [(0, 2, CAR)], [(-1, 0, CAR)], [(True, 0, CAR)], [(0, True, CAR)], [(0, 1, str(CAR))],
                      [(0, 1, CAR, None)], (0, 1, CAR), [(0, 1, CAR), None], [(0, (0, 1), CAR)], {(0, 1): CAR}, [(0, 1, BANK)], [(0, 1, CAR)] * 13):
            if value not in ((), []):
                self.check_part(BadLevel, "lifts", Level, [BANK, STREET], 6, value, None, None, None)
        lifts = [(0, 1, Piece(0, at + 1, (0, 0), (1, 1))) for at in range(13)]
        self.assertEqual(len(Level([BANK, STREET], 6, lifts[:12], [], (0, 1), [0]).lifts), 12)
        self.check_part(BadLevel, "lifts", Level, [BANK, STREET], 6, lifts, [], (0, 1), [0])

    def test_keyring(self):
        for value in (*ODDITIES, [()], [(0,)], [(0, None)], [(2, CAR)], [(-1, CAR)], [(True, CAR)], [(0, str(CAR))], [(0, CAR, None)], (0, CAR), {0: CAR},
                      [(0, CAR), None], [((0, 1), CAR)], [(0, CAR)] * 3, [CAR]):
            if value not in ((), []):
                self.check_part(BadLevel, "keyring", Level, [BANK, STREET], 6, [], value, None, None)
        for many in (0, 1, 2):
            self.assertEqual(len(Level([BANK, STREET], 6, [], [(0, CAR)] * many, (0, 1), [0]).keyring), many)

    def test_start(self):
        for value in (*ODDITIES, (0,), (2, 1), (-1, 1), (True, 1), (0, True), (0, None), (0, 1, 0), ((0, 1), 1), "01", [[0, 1]], {0: 0, 1: 1}, (0, (4, 2)), (0, 1.0)):
            if value not in ((1, 2), [1, 2]):
                self.check_part(BadLevel, "start", Level, [BANK, STREET], 6, [], [], value, None)
        for value in NO_NUMBERS:
            if value not in ((1, 2), [1, 2]):
                self.check_part(BadLevel, "start", Level, [BANK, STREET], 6, [], [], (0, value), None)

    def test_goals(self):
        for value in (*ODDITIES, [2], [-1], [0, 0], [1, 0], [True], [False, 1], [None], [[0]], "0", {0}, [0, 1, 2], 0):
            if value not in ([1], (1,)):
                self.check_part(BadLevel, "goals", Level, [BANK, STREET], 6, [], [], (0, 9), value)

    def test_misfits(self):
        locked = [Lane("road", 4, [Body(CAR, lock)]) for lock in (0, 1)]
        lift = [(0, 1, CAR)] * 2
        for lanes, keyring, fits in (([locked[0], BANK], 0, False), ([locked[1], BANK], 0, False), ([BANK, locked[1]], 1, False), ([BANK, locked[0]], 1, True),
                                     ([*locked], 1, False), ([*locked], 2, True)):
            if fits:
                Level(lanes, 6, [], [(0, CAR)] * keyring, (0, 1), [0])
                self.check_part(Misfit, "start", Level, lanes, 6, lift, [(0, CAR)] * keyring, (0, 9), [0])
                self.check_raises(Twice, {"value": lift[1]}, Level, lanes, 6, lift, [(0, CAR)] * keyring, (0, 1), [0])
            else:
                self.check_part(Misfit, "lock", Level, lanes, 6, lift, [(0, CAR)] * keyring, (0, 9), [0])

    def test_start_that_is_not_free(self):
        first, key = Piece(0, 2, (1, 1), (2, 2)), [(0, HERE)]
        for lane, keyring, free, barred in (
                (Lane("road", 4, [Body(first)]), [], (0, 1, 2, 4, (1, 2)), ((3, 2), 5, -1, (9, 2))), (Lane("river", 4, [Body(first)]), [], (1, 2, (3, 2)), (0, 4, (1, 2), (5, 2))),
                (Lane("road", 4, [Body(first, 0)]), key, (0, 1, 2), ((3, 2),)), (Lane("river", 4, [Body(first, 0)]), key, (1, 2, (3, 2)), (0,)),
                (Lane("road", 4, [Body(Piece(-2, 0, (0, 0), (4, 4)))]), [], (0, 2, 4), (5,)), (Lane("river", 4, [Body(Piece(-2, 0, (0, 0), (4, 4)))]), [], (), (0, 2)),
                (Lane("river", 4, [Body(Piece(0, 2, (-1, 0), (0, 1)))]), [], (0,), (1, (1, 2))), (Lane("river", 4, [Body(Piece(0, 2, (-2, 0), (-1, 1)))]), [], (), (0, -1)),
                (Lane("road", 4, [Body(Piece(0, 2, (0, 0), (4, 2)))]), [], (4,), (3, 0)), (Lane("road", 4, [Body(Piece(0, 2, (0, 0), (4, 4)))]), [], (), (0, 4, 2))):
            for place in free:
                self.assertEqual(Level([lane], 6, [], keyring, (0, place), [0]).start, (0, place))
            for place in barred:
                self.check_part(Misfit, "start", Level, [lane], 6, [], keyring, (0, place), [0])

    def test_lifts_twice(self):
        same = [0, 1, Piece(1, 4, [0, 3], [2, 5])]
        for lifts, at in (([(0, 1, CAR), (1, 0, CAR), same], 2), ([(0, 1, HERE), same, (0, 1, CAR), (0, 1, CAR)], 2), ([same, same], 1)):
            error = self.check_raises(Twice, {"value": lifts[at]}, Level, [BANK, STREET], 6, lifts, [], (0, 1), [0])
            self.assertIs(error.value, lifts[at])
        Level([BANK, STREET], 6, [(0, 1, CAR), (1, 0, CAR), (0, 1, HERE)], [(0, CAR), (0, CAR)], (0, 1), [0])


class FreeTest(LaneCase):
    def test_refused(self):
        for value in (*ODDITIES, BANK, str(LEVEL), Level):
            self.check_part(BadLevel, "level", free_at, value, None, None, None)
        for value in (*ODDITIES, 3, -1, (0, 1), 10 ** 60):
            self.check_part(BadNumber, "lane", free_at, FULL, value, None, None)
        for value in (*NO_NUMBERS, -1, 7, (13, 2), (-1, 2), 10 ** 60):
            if value not in ((1, 2), [1, 2]):
                self.check_part(BadNumber, "moment", free_at, FULL, 0, value, None)
        for value in (*ODDITIES, 0, [2], [-1], [0, 0], [1, 0], [True], [None], "0", {0}, [0, 1, 2]):
            if value not in ((), [], [1], (1,)):
                self.check_part(BadNumber, "keys", free_at, FULL, 0, 0, value)
        for level, value in ((LEVEL, [0]), (LEVEL, (1,)), (Level([BANK], 6, [], [(0, CAR)], (0, 0), [0]), [1]), (Level([BANK], 6, [], [(0, CAR)], (0, 0), [0]), [0, 1])):
            self.check_part(BadNumber, "keys", free_at, level, 0, 0, value)
        self.assertEqual(free_at(keys=[], moment=2, lane=1, level=LEVEL), ((0, 1), (3, 4)))
        self.assertEqual(free_at(LEVEL, 1, 2), ((0, 1), (3, 4)))

    def test_drawn_levels(self):
        source = random.Random(711)
        asked = several = 0
        for _ in range(60):
            level = drawn_level(source, 3, 4)
            for keys in lots(len(level.keyring)):
                for at, lane in enumerate(level.lanes):
                    cuts = cuts_by_words(lane, level.end, keys)
                    for moment in sorted({*cuts, *[(one + other) / 2 for one, other in zip(cuts, cuts[1:])], frac(level.end) / 3}):
                        wanted = tuple((number(low), number(high)) for low, high in free_by_words(lane, level.end, keys, moment))
                        self.assertEqual(free_at(level, at, number(moment), keys), wanted)
                        self.assertEqual(free_at(level, at, as_lists(number(moment)), list(keys)), wanted)
                        asked, several = asked + 1, several + (len(wanted) > 1)
        self.assertGreater(asked, 1000)
        self.assertGreater(several, 100)

    def test_by_hand(self):
        self.assertEqual([free_at(FULL, 1, 2, keys) for keys in ((), (0,), (1,), (0, 1))], [((0, 4),)] * 4)
        ends = Level([Lane("river", 4, [Body(Piece(0, 6, (0, 0), (1, 1))), Body(Piece(0, 6, (3, 1), (4, 2)), 0)])], 6, [], [(0, CAR)], (0, 0), [0])
        self.assertEqual([free_at(ends, 0, moment) for moment in (0, 3, 6)], [((0, 1), (3, 4)), ((0, 1), (2, 3)), ((0, 2),)])
        self.assertEqual([free_at(ends, 0, moment, [0]) for moment in (0, 3, 6)], [((0, 1),)] * 3)
        # Ground that ends as other ground begins is free both ways.
        blink = Level([Lane("river", 4, [Body(Piece(0, 2, (0, 0), (1, 1))), Body(Piece(2, 4, (3, 3), (4, 4)))])], 5, [], [], (0, 0), [0])
        self.assertEqual([free_at(blink, 0, moment) for moment in (1, 2, 3, 4, 5)], [((0, 1),), ((0, 1), (3, 4)), ((3, 4),), ((3, 4),), ()])


if __name__ == "__main__":
    unittest.main()
