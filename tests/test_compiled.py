import random
import unittest
from fractions import Fraction

from drawn import as_lists, drawn_play
from grounds import cuts_by_words, drawn_level, free_by_words, lots, strips_between, world_by_words
from helper import NO_NUMBERS, ODDITIES, LaneCase
from lanecross.compiled import piece_at, whence, world_of
from lanecross.errors import BadLevel, BadNumber, TooMany
from lanecross.lanes import Body, Lane, ground_of
from lanecross.levels import Level, free_at
from lanecross.pieces import Piece
from lanecross.plays import is_play
from lanecross.soonest import run_to
from lanecross.tables import soonest_by
from lanecross.worlds import World
from reference import frac, has, number

BANK = Lane("road", 4)
CAR = Piece(1, 4, (0, 3), (2, 5))
LEVEL = Level([BANK, Lane("road", 4, [Body(CAR)])], 6, [], [], (0, 1), [1])
KEYS = Level([BANK, Lane("river", 5, [Body(Piece(0, 4, (0, 2), (1, 3))), Body(Piece(2, 6, (2, 2), (3, 3)), 0)])], 5, [(0, 1, Piece(0, 1, (0, 0), (4, 4)))],
             [(0, Piece(0, 5, (3, 3), (4, 4)))], [1, (1, 2)], [0])
PIECES, LINKS = {"what": "pieces", "most": 48}, {"what": "links", "most": 600}


def road_of(pieces):
    """A level of a road with 48 or 49 pieces: cars bar its middle, one behind another."""
    cars = [Body(Piece(2 * at + 1, 2 * at + 2, (1, 1), (2, 2))) for at in range(16)]
    return Level([Lane("road", 3, cars)], 32 if pieces == 48 else 33, [], [], (0, 0), [0])


def lifts_of(links):
    """A level of 48 pieces with 600 or 601 links: a bank, 23 floors, a key, and twelve lifts."""
    floors = [Body(Piece(0, 9, (2 * at, 2 * at), (2 * at + 1, 2 * at + 1))) for at in range(23)]
    lanes = [Lane("road", 60), Lane("river", 60, floors)]
    lifts = [(0, 1, Piece(0, at + 1, (0, 0), (60, 60))) for at in range(11)] + [(1, 0, Piece(0, 1, (0, 0), (0, 0)))]
    key = Piece(0, 9, (1, 1), (1, 1)) if links == 601 else Piece(20, 21, (1, 1), (1, 1))
    return Level(lanes, 8, lifts, [(0, key)], (0, 1), [1])


class WorldOfTest(LaneCase):
    def check_world(self, level):
        world = world_of(level)
        of, pieces, links = world_by_words(level)
        self.assertIsInstance(world, World)
        self.assertEqual([str(piece) for piece in world.pieces], [str(piece) for piece in pieces])
        self.assertEqual([(one, other, window and str(window)) for one, other, window in world.links],
                         [(one, other, window and str(window)) for one, other, window in links])
        self.assertEqual(whence(level), tuple(of))
        self.assertEqual(world.goals, tuple(at for at, (_, lane) in enumerate(of) if lane in level.goals))
        lane, place = level.start
        self.assertEqual(world.start, (0, place, min(at for at, (keys, own) in enumerate(of) if keys == () and own == lane and has(pieces[at], 0, frac(place)))))
        return world

    def test_drawn_levels(self):
        source = random.Random(801)
        links = keyed = lifted = refused = 0
        for _ in range(110):
            level = drawn_level(source, 3, 3)
            if len(world_by_words(level)[1]) > 48:
                for told in (world_of, whence):
                    self.check_raises(TooMany, PIECES, told, level)
                self.check_raises(TooMany, PIECES, piece_at, level, 0, 0, 0)
                refused += 1
                continue
            world = self.check_world(level)
            self.assertTrue(world == world_of(Level.read(str(level))))
            of = whence(level)
            links += len(world.links)
            keyed += sum(of[one][0] != of[other][0] for one, other, _ in world.links)
            lifted += sum(window is not None and of[one][0] == of[other][0] for one, other, window in world.links)
        self.assertTrue(links > 1000 and keyed > 50 and lifted > 50, (links, keyed, lifted, refused))

    def test_pieces_are_grounds(self):
        source = random.Random(802)
        for _ in range(30):
            level = drawn_level(source, 3, 2)
            pieces = [piece for keys in lots(len(level.keyring)) for lane in level.lanes for piece in ground_of(lane, level.end, keys)]
            if len(pieces) <= 48:
                self.assertTrue(world_of(level).pieces == tuple(pieces))

    def test_many(self):
        self.assertEqual(len(self.check_world(road_of(48)).pieces), 48)
        self.assertEqual(len(self.check_world(lifts_of(600)).links), 600)
        for level, fields in ((road_of(49), PIECES), (lifts_of(601), LINKS)):
            for told in (world_of, whence):
                self.check_raises(TooMany, fields, told, level)
            self.check_raises(TooMany, fields, piece_at, level, 0, 0, 0)
            self.check_part(BadNumber, "keys", piece_at, level, 0, 0, 0, [1])
        self.assertEqual(len(lifts_of(600).lanes), 2)
        self.assertEqual(len(whence(lifts_of(600))), 48)
        self.assertEqual(whence(lifts_of(600))[24:26], (((0,), 0), ((0,), 1)))

    def test_order_of_links(self):
        both = [(0, 1, Piece(0, 3, (0, 0), (4, 4))), (1, 0, Piece(0, 2, (0, 0), (4, 4))), (0, 1, Piece(0, 1, (0, 0), (4, 4))), (0, 2, Piece(0, 1, (0, 0), (4, 4)))]
        level = Level([BANK, BANK, BANK], 6, both, [(1, CAR), (1, Piece(0, 6, (9, 9), (9, 9)))], (0, 1), [1])
        wanted = [(0, 1, None), (0, 1, both[0][2]), (0, 1, both[2][2]), (0, 2, both[3][2]), (1, 0, None), (1, 0, both[1][2]), (1, 2, None), (1, 4, CAR), (2, 1, None)]
        self.assertTrue(world_of(level).links[:9] == tuple(wanted))
        self.assertEqual([link[:2] for link in world_of(level).links if link[2] == CAR], [(1, 4), (7, 10)])
        self.check_world(level)

    def test_walks_at_ends(self):
        # Two floors in one lane: the second begins where and when the first ends, or just beside, or both last.
        for second, walks in ((Piece(3, 6, (1, 3), (2, 4)), [(0, 1)]), (Piece(3, 6, (2, 2), (3, 3)), [(0, 1)]), (Piece(3, 6, (3, 3), (4, 4)), []),
                              (Piece(3, 6, (0, 0), (1, 1)), [(0, 1)]), (Piece(4, 6, (1, 1), (2, 2)), [])):
            level = Level([Lane("river", 6, [Body(Piece(0, 3, (1, 1), (2, 2))), Body(second)])], 6, [], [], (0, 1), [0])
            self.assertEqual([link[:2] for link in self.check_world(level).links], walks)
        # Points that meet on the way can be changed for one another; those that meet at the very end cannot.
        meet = [Piece(0, 2, (0, 2), (0, 2)), Piece(0, 2, (2, 0), (2, 0)), Piece(0, 1, (4, 5), (4, 5)), Piece(0, 1, (6, 5), (6, 5))]
        level = Level([Lane("river", 6, [Body(piece) for piece in meet])], 6, [], [], (0, 0), [0])
        self.assertEqual([link[:2] for link in self.check_world(level).links], [(0, 1), (1, 0)])
        # In the next lane these may be changed for, too.
        level = Level([Lane("river", 6, [Body(meet[2])]), Lane("river", 6, [Body(meet[3])])], 6, [], [], (0, 4), [0])
        self.assertEqual([link[:2] for link in self.check_world(level).links], [(0, 1), (1, 0)])

    def test_refused(self):
        for value in (*ODDITIES, BANK, str(LEVEL), Level, world_of(LEVEL)):
            self.check_part(BadLevel, "level", world_of, value)
            self.check_part(BadLevel, "level", whence, value)
            self.check_part(BadLevel, "level", piece_at, value, None, None, None, None)
        self.assertEqual(whence(level=LEVEL), (((), 0), ((), 1), ((), 1), ((), 1), ((), 1)))
        self.assertEqual(len(world_of(level=LEVEL).pieces), 5)


class PieceAtTest(LaneCase):
    def test_refused(self):
        for level in (KEYS, road_of(49)):
            for value in (*NO_NUMBERS, -1, 99, (-1, 2)):
                if value not in ((1, 2), [1, 2]):
                    self.check_part(BadNumber, "moment", piece_at, level, value, None, None, None)
            for value in (*ODDITIES, 2, -1, (0, 1)):
                self.check_part(BadNumber, "lane", piece_at, level, 0, value, None, None)
            for value in NO_NUMBERS:
                if value not in ((1, 2), [1, 2]):
                    self.check_part(BadNumber, "place", piece_at, level, 0, 0, value, None)
            for value in (*ODDITIES, 0, [2], [0, 0], [1, 0], [True], [None], "0", [1], [0, 1]):
                if value not in ((), []):
                    self.check_part(BadNumber, "keys", piece_at, level, 0, 0, 0, value)
        self.assertEqual(piece_at(keys=[0], place=2, lane=1, moment=2, level=KEYS), 5)
        self.assertEqual(piece_at(KEYS, (9, 2), 1, (5, 2)), 3)
        self.assertIsNone(piece_at(KEYS, (9, 2), 1, (5, 2), [0]))

    def test_drawn_levels(self):
        source = random.Random(811)
        found = missed = 0
        for _ in range(25):
            level = drawn_level(source, 2, 3)
            of, pieces, _ = world_by_words(level)
            if len(pieces) > 48:
                continue
            for _ in range(12):
                keys, lane = source.choice(lots(len(level.keyring))), source.randrange(len(level.lanes))
                cuts = cuts_by_words(level.lanes[lane], level.end, keys)
                moment = source.choice([*cuts, *[(one + other) / 2 for one, other in zip(cuts, cuts[1:])]])
                pairs = free_by_words(level.lanes[lane], level.end, keys, moment)
                for place in [at for pair in pairs for at in pair] + [Fraction(source.randint(-2, 12), 2)]:
                    having = [at for at, plot in enumerate(of) if plot == (keys, lane) and has(pieces[at], moment, place)]
                    told = piece_at(level, number(moment), lane, number(place), keys)
                    self.assertEqual(told, having[0] if having else None)
                    self.assertEqual(told, piece_at(level, as_lists(number(moment)), lane, as_lists(number(place)), list(keys)))
                    self.assertEqual(told is not None, any(low <= place <= high for low, high in pairs))
                    found, missed = found + bool(having), missed + (not having)
        self.assertGreater(found, 150)
        self.assertGreater(missed, 30)


class Player:
    """Somebody in a level, who moves by the words of the document, through free places."""

    def __init__(self, source, level):
        self.source, self.level = source, level
        self.moment, (self.lane, place), self.keys = Fraction(0), level.start, ()
        self.place = frac(place)

    def is_free(self, lane, keys):
        return any(low <= self.place <= high for low, high in free_by_words(self.level.lanes[lane], self.level.end, keys, self.moment))

    def walk(self):
        """Goes on within one strip that has the spot, up to some moment, not behind the next cut."""
        lane = self.level.lanes[self.lane]
        cuts = cuts_by_words(lane, self.level.end, self.keys)
        for first, last in zip(cuts, cuts[1:]):
            if first <= self.moment < last:
                strips = [strip for strip in strips_between(lane, self.keys, first, last) if self.at(strip[0], first, last, self.moment) <= self.place
                          <= self.at(strip[1], first, last, self.moment)]
                if strips:
                    return self.walk_in(self.source.choice(strips), first, last)

    def at(self, edge, first, last, moment):
        return edge[0] + (edge[1] - edge[0]) * (moment - first) / (last - first)

    def walk_in(self, strip, first, last):
        moment = self.moment + (last - self.moment) * self.source.choice((1, 1, Fraction(1, 2), Fraction(1, 3)))
        low = max(self.place - (moment - self.moment), self.at(strip[0], first, last, moment))
        high = min(self.place + (moment - self.moment), self.at(strip[1], first, last, moment))
        if low <= high:
            self.place = low + (high - low) * self.source.choice((0, 1, Fraction(1, 2), Fraction(1, 5)))
            self.moment = moment

    def step(self):
        """Walks, or changes lane, or takes a key, if the spot is free behind this, too."""
        lanes = [lane for lane in (self.lane - 1, self.lane + 1) if 0 <= lane < len(self.level.lanes)]
        lanes += [other for one, other, window in self.level.lifts if one == self.lane and has(window, self.moment, self.place)]
        lanes = [lane for lane in lanes if self.is_free(lane, self.keys)]
        keys = [tuple(sorted((*self.keys, key))) for key, (lane, window) in enumerate(self.level.keyring)
                if key not in self.keys and lane == self.lane and has(window, self.moment, self.place)]
        keys = [own for own in keys if self.is_free(self.lane, own)]
        kind = self.source.randint(0, 3)
        if kind == 0 and keys:
            self.keys = self.source.choice(keys)
        elif kind == 1 and lanes:
            self.lane = self.source.choice(lanes)
        else:
            self.walk()


class PlayersTest(LaneCase):
    def small_levels(self, seed, many):
        source = random.Random(seed)
        while many:
            level = drawn_level(source, 3, 2)
            if len(world_by_words(level)[1]) <= 24:
                many -= 1
                yield source, level

    def test_what_players_do_is_done_in_the_world(self):
        reached = changed = 0
        for source, level in self.small_levels(821, 30):
            world, of = world_of(level), whence(level)
            for _ in range(3):
                player = Player(source, level)
                for _ in range(10):
                    player.step()
                moment, place = number(player.moment), number(player.place)
                self.assertIsNotNone(piece_at(level, moment, player.lane, place, player.keys))
                having = [at for at, plot in enumerate(of) if plot == (player.keys, player.lane) and has(world.pieces[at], player.moment, player.place)]
                runs = [at for at in having if run_to(world, (moment, place, at)) is not None]
                self.assertTrue(runs, str(level))
                # To a piece that ends just then nobody walks over; to all others one does.
                self.assertTrue({at for at in having if world.pieces[at].end != moment} <= set(runs), str(level))
                reached += player.moment > 0
                changed += (player.keys, player.lane) != of[world.start[2]]
        self.assertGreater(reached, 60)
        self.assertGreater(changed, 20)

    def test_plays_of_the_world_are_free(self):
        hops = 0
        for source, level in self.small_levels(822, 30):
            world, of = world_of(level), whence(level)
            play = drawn_play(source, world, world.start)
            self.assertIs(is_play(world, play), True)
            for one, other in zip(play, play[1:]):
                keys, lane = of[one[2]]
                for part in (0, Fraction(1, 4), Fraction(1, 2), 1):
                    moment = frac(one[0]) + (frac(other[0]) - frac(one[0])) * part
                    place = frac(one[1]) + (frac(other[1]) - frac(one[1])) * part
                    self.assertTrue(any(frac(low) <= place <= frac(high) for low, high in free_at(level, lane, number(moment), keys)))
                keys, lane = of[other[2]]
                self.assertTrue(any(frac(low) <= frac(other[1]) <= frac(high) for low, high in free_at(level, lane, other[0], keys)))
                hops += one[2] != other[2]
        self.assertGreater(hops, 30)

    def test_by_hand(self):
        self.assertEqual(soonest_by(world_of(LEVEL)), 0)
        gate = Body(Piece(0, 6, (0, 0), (4, 4)), 0)
        locked = Level([BANK, Lane("road", 4, [gate])], 6, [], [(0, Piece(2, 6, (3, 3), (4, 4)))], (0, 1), [1])
        self.assertEqual(soonest_by(world_of(locked)), 2)
        self.assertIsNone(soonest_by(world_of(Level([BANK, Lane("road", 4, [gate])], 6, [], [(1, Piece(2, 6, (3, 3), (4, 4)))], (0, 1), [1]))))
        far = Level([BANK, Lane("river", 4), BANK], 6, [(0, 2, Piece((7, 2), 4, (4, 4), (4, 4)))], [], (0, 0), [2])
        self.assertEqual(soonest_by(world_of(far)), 4)
        self.assertIsNone(soonest_by(world_of(Level(far.lanes, 6, [], [], (0, 0), [2]))))


if __name__ == "__main__":
    unittest.main()
