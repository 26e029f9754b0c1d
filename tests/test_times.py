"""Answers come in a short time. The bounds are wide: they catch what grows too fast, not a slow machine."""

import random
import time
import unittest
from fractions import Fraction

from lanecross.check_edits import shows_bar, shows_needed
from lanecross.check_tables import is_closed, is_kept, shows_escape, shows_lasting, shows_run, shows_soonest
from lanecross.compiled import piece_at, whence, world_of
from lanecross.desk import Desk
from lanecross.edits import delays, least_bar, needed, needed_links
from lanecross.errors import Misfit, Nothing, TooMany
from lanecross.films import commands_for, commands_of, commands_text, film, played
from lanecross.fronts import (covers, front_at, front_read, front_text, full_front, is_behind, is_front, least_of, lowest, spread, through)
from lanecross.lanes import Body, Lane, cuts_of, ground_of
from lanecross.level_edits import in_the_way
from lanecross.levels import Level, free_at
from lanecross.numbers import distance, greatest, least, minus, number_text, over, plus, times
from lanecross.pictures import chart, columns_of, scene
from lanecross.pieces import Piece
from lanecross.plays import hops_of, is_play, joined, parted, plain, straightened, where_at, wins_at
from lanecross.safe import alive_table, escape, is_alive, is_safe, last_call, last_stand, lasting, safe_table
from lanecross.soonest import run_to, soonest
from lanecross.stories import are_alike, shows_story, story
from lanecross.tables import fewest, soonest_by, table
from lanecross.turned import backward, mirrored, moved, stretched, with_links, with_piece, without
from lanecross.worlds import World, links_from
from reference import frac, number


def one_of(source, low, high):
    below = source.randint(100, 999)
    return number(Fraction(source.randint(low * below, high * below), below))


def great(source):
    return number(Fraction(source.randint(-10 ** 100, 10 ** 100), source.randint(1, 10 ** 100)))


class TimesTest(unittest.TestCase):
    def check_short(self, told, seconds=2):
        begun = time.perf_counter()
        answer = told()
        self.assertLess(time.perf_counter() - begun, seconds)
        return answer

    def sixty(self, source):
        piece = Piece(0, 900, (0, one_of(source, 0, 50)), (one_of(source, 800, 900), one_of(source, 700, 800)))
        places = sorted(source.sample(range(60 * 997, 690 * 997), 60))
        return piece, [number(Fraction(place, 997)) for place in places]

    def test_fronts_of_sixty_corners(self):
        source = random.Random(81)
        piece, places = self.sixty(source)
        other = Piece(one_of(source, 300, 320), 800, (one_of(source, 50, 90), 70), (one_of(source, 600, 700), 650))
        rows = ([[(place, one_of(source, 300, 400)) for place in places]], [[(place, one_of(source, 300, 310))] for place in places],
                [[(place, one_of(source, 300, 900)) for place in places[at:at + 6]] for at in range(0, 60, 6)])
        fronts = [self.check_short(lambda: spread(piece, row)) for row in rows]
        for one in fronts:
            self.assertTrue(self.check_short(lambda: is_front(piece, one)))
            for two in fronts:
                self.check_short(lambda: least_of(piece, one, two))
                self.check_short(lambda: covers(one, two))
            for window in (None, other):
                self.check_short(lambda: through(one, piece, other, window))
            self.check_short(lambda: (front_at(one, places[30]), lowest(one), is_behind(one, 400, places[7])))
            self.assertEqual(self.check_short(lambda: front_read(front_text(one))), one)

    def test_many_links(self):
        source = random.Random(82)
        piece, places = self.sixty(source)
        front = spread(piece, [[(place, one_of(source, 300, 400)) for place in places]])

        def rows_of_links():
            one, told = piece, front
            for _ in range(100):
                other = Piece(0, 900, (0, one_of(source, 0, 50)), (one_of(source, 800, 900), one_of(source, 700, 800)))
                told = through(told, one, other, None)
                one = other
            return told
        self.assertEqual(len(self.check_short(rows_of_links, 10)), 1)

    def test_great_numbers(self):
        source = random.Random(83)
        values = [great(source) for _ in range(60)]

        def reckoned():
            for one in values:
                for other in values:
                    plus(one, other), minus(one, other), times(one, other), over(one, other), distance(one, other)
            return [number_text(value) for value in values] + [least(values), greatest(values)]
        self.check_short(reckoned)
        moments = sorted(values[:2], key=frac)
        places = sorted(values[2:6], key=frac)
        piece = Piece(moments[0], moments[1], places[:2], places[2:])
        self.assertTrue(self.check_short(lambda: is_front(piece, spread(piece, [[(places[1], moments[1])]]))))

    def test_greatest_worlds(self):
        pieces = [Piece(0, 900, (at, at + 1), (at + 5, at + 9)) for at in range(60)]
        links = [(at % 60, (at * 7 + 1 + at // 60) % 60, Piece(0, at + 1, (0, 0), (at, at))) for at in range(600)]
        links = [link for link in links if link[0] != link[1]]
        world = self.check_short(lambda: World(pieces, links, (0, 0, 0), list(range(60))))
        same = [(0, 1, Piece(0, at + 1, (0, 0), (at, at))) for at in range(600)]
        self.assertEqual(len(self.check_short(lambda: World(pieces, same, (0, 0, 0), [])).links), 600)
        self.assertTrue(self.check_short(lambda: World.read(str(world))) == world)
        for told in (lambda: mirrored(world), lambda: moved(world, (1, 7), (-1, 9)), lambda: stretched(world, (2, 7)), lambda: without(world, 3),
                     lambda: backward(world, (0, 0, 0), [1]), lambda: with_links(without(world, 3), [(3, 4, None)]), lambda: links_from(world, 3)):
            self.check_short(told)
        with_piece(World(pieces[:59], [], (0, 0, 0), []), pieces[0], [(59, 0, None)])

    def wide_world(self, source, many, links):
        """Pieces that lie across one another for a long time, with windows at half of the links."""
        def row(low, high):
            return number(Fraction(source.randint(low * 997, high * 997), source.randint(500, 997)))
        pieces = [Piece(row(0, 20), row(300, 600), (row(0, 100), row(0, 200)), (row(200, 300), row(400, 500))) for _ in range(many)]
        ways = []
        for at in range(links):
            one = at % many
            other = (one + 1 + at // many % (many - 1)) % many
            ways.append((one, other, Piece(at, at + 50, (row(0, 90), row(0, 90)), (row(200, 300), row(200, 300))) if at >= many * (many - 1) or at % 2 else None))
        return World(pieces, ways, (pieces[0].begin, pieces[0].left[0], 0), [many - 1])

    def slow_chain(self, source, many):
        """Each piece leads to the next one only, and what comes bends at edges again and again."""
        pieces = [Piece(one_of(source, 0, 3), one_of(source, 900, 950), (one_of(source, 9 * at, 9 * at + 1), one_of(source, 9 * at, 9 * at + 1)),
                        (one_of(source, 9 * at + 10, 9 * at + 12), one_of(source, 9 * at + 10, 9 * at + 13))) for at in range(many)]
        return World(pieces, [(at, at + 1, None) for at in range(many - 1)], (10, 5, 0), [many - 1])

    def check_papers(self, world, told):
        self.assertTrue(self.check_short(lambda: is_closed(world, told)))
        self.assertTrue(self.check_short(lambda: is_kept(world, safe_table(world)), 4))
        paper = soonest(world)
        self.assertTrue(self.check_short(lambda: shows_soonest(world, paper)))
        station = world.start if not paper else paper.run[-1]
        for answer, shows in ((run_to, shows_run), (escape, shows_escape), (lasting, shows_lasting)):
            paper = answer(world, station)
            self.assertTrue(self.check_short(lambda: shows(world, station, paper)))

    def check_world(self, world):
        told = self.check_short(lambda: table(world))
        self.check_papers(world, told)
        self.assertEqual(self.check_short(lambda: table(world, 10 ** 60)), told)
        for answer in (lambda: fewest(world), lambda: soonest_by(world), lambda: safe_table(world), lambda: alive_table(world)):
            self.check_short(answer)
        self.check_short(lambda: soonest(world))
        for at, front in enumerate(told):
            if front and at % 7 == 0:
                station = (front[-1][-1][1], front[-1][-1][0], at)
                self.assertEqual(self.check_short(lambda: run_to(world, station))[-1], station)
                for answer in (is_safe, is_alive, escape, lasting):
                    self.check_short(lambda: answer(world, station))
                self.check_short(lambda: (last_call(world, at, station[1]), last_stand(world, at, station[1])))

    def test_tables(self):
        source = random.Random(84)
        for many, links in ((2, 600), (4, 500), (10, 200), (20, 100), (44, 45), (60, 33)):
            self.check_world(self.wide_world(source, many, links))
        for many in (16, 44):
            world = self.slow_chain(source, many)
            self.assertEqual(self.check_short(lambda: fewest(world)), many - 1)
            self.check_world(world)

    def test_plays(self):
        source = random.Random(85)
        world = self.wide_world(source, 4, 500)
        same = World([world.pieces[0]] * 4, world.links, (50, 150, 0), [3])
        play = [(number(Fraction(50 * 997 + at, 997)), 150, at // 20) for at in range(60)]
        for one in (play, play[:20]):
            self.assertTrue(self.check_short(lambda: is_play(same, one)))
            for answer in (plain, straightened, hops_of, wins_at):
                self.check_short(lambda: answer(same, one))
            self.check_short(lambda: where_at(same, one, one[10][0]))
            self.assertEqual(self.check_short(lambda: joined(same, *parted(same, one, one[11][0]))), plain(same, one))

    def body(self, source, end, is_still=False, lock=None):
        begin, left = one_of(source, -10, end - 10), one_of(source, -20, 80)
        other = left if is_still else one_of(source, -20, 80)
        room = one_of(source, 1, 20)
        piece = Piece(begin, number(frac(begin) + frac(one_of(source, 10, 60))), (left, other), [number(frac(place) + frac(room)) for place in (left, other)])
        return Body(piece, lock)

    def test_lanes(self):
        source = random.Random(86)
        for many in (12, 24):
            bodies = [self.body(source, 60) for _ in range(many)]
            for kind in ("road", "river"):
                lane = Lane(kind, 90, bodies)
                self.check_short(lambda: cuts_of(lane, 60))
                self.check_short(lambda: ground_of(lane, 60), 2 if many == 12 else 10)

    def drawn_level(self, source, lanes, bodies, keys, is_still):
        while True:
            rows = [[] for _ in range(lanes)]
            for at in range(bodies):
                rows[source.randrange(lanes)].append(self.body(source, 60, is_still, source.choice((None, *range(keys)))))
            kinds = [source.choice(("road", "river")) for _ in range(lanes)]
            window = Piece(0, 60, (0, 0), (90, 90))
            lifts = [(at % lanes, (at + 2) % lanes, Piece(at, at + 40, (0, 0), (90, 90))) for at in range(6)]
            try:
                return Level([Lane(kind, 90, row) for kind, row in zip(kinds, rows)], 60, lifts, [(key, window) for key in range(keys)], (0, 45), [lanes - 1])
            except Misfit:
                continue

    def test_levels(self):
        source = random.Random(87)
        made = refused = 0
        for lanes, bodies, keys, is_still in ((5, 12, 0, False), (5, 12, 2, False), (5, 12, 2, True), (8, 24, 2, True), (3, 4, 2, False), (5, 5, 1, False)):
            for _ in range(4):
                level = self.check_short(lambda: self.drawn_level(source, lanes, bodies, keys, is_still), 5)
                self.assertTrue(self.check_short(lambda: Level.read(str(level))) == level)
                self.check_short(lambda: [free_at(level, lane, 30) for lane in range(lanes)])
                try:
                    world = self.check_short(lambda: world_of(level))
                except TooMany:
                    refused += 1
                    continue
                made += 1
                self.check_short(lambda: (whence(level), piece_at(level, 30, 0, 45)))
                self.check_short(lambda: (table(world), soonest(world), safe_table(world)), 4)
        self.assertTrue(made > 5 and refused > 5, (made, refused))

    def test_levels_with_great_numbers(self):
        """Bodies that stand still, and numbers of a hundred digits, at all sizes."""
        source = random.Random(88)
        wide = number(Fraction(10 ** 100, source.randint(10 ** 99, 10 ** 100)))

        def part(low, high):
            return number(frac(wide) * Fraction(source.randint(low * 10 ** 97, high * 10 ** 97), 10 ** 100))
        for many in (3, 24):
            bodies = []
            for _ in range(many):
                (begin, end), (left, right) = [sorted((part(0, 500), part(501, 999)), key=frac) for _ in range(2)]
                bodies.append(Body(Piece(begin, end, (left, left), (right, right)), source.choice((None, 0))))
            level = self.check_short(lambda: Level([Lane("road", wide), *[Lane("road", wide, bodies[at::7]) for at in range(7)]], wide, [(0, 3, bodies[0].piece)],
                                                   [(0, bodies[1].piece)], (0, part(1, 900)), [7]))
            self.check_short(lambda: str(level))
            try:
                self.check_short(lambda: world_of(level))
            except TooMany:
                self.assertEqual(many, 24)
        moving = [Body(Piece(part(0, 100), part(800, 999), [part(0, 300) for _ in range(2)], [part(301, 600) for _ in range(2)])) for _ in range(24)]
        self.check_short(lambda: Level([Lane("road", wide), Lane("road", wide, moving)], wide, [], [], (0, part(1, 900)), [1]))

    def check_edits(self, world):
        told = self.check_short(lambda: needed(world), 5)
        self.assertTrue(self.check_short(lambda: shows_needed(world, told), 5))
        self.check_short(lambda: delays(world), 5)
        self.check_short(lambda: needed_links(world), 5)

    def test_edits(self):
        source = random.Random(84)
        for many, links in ((2, 600), (4, 500), (10, 200), (20, 100), (44, 45)):
            self.check_edits(self.wide_world(source, many, links))
        for many in (16, 44):
            self.check_edits(self.slow_chain(source, many))

    def test_bars(self):
        source = random.Random(90)
        words = []
        for many, links in ((8, 250), (7, 280), (8, 100), (4, 500)):
            world = self.wide_world(source, many, links)
            for kept in (world.links, [link for link in world.links if link[:2] != (0, many - 1)]):
                other = World(world.pieces, kept, world.start, world.goals)
                told = self.check_short(lambda: least_bar(other), 5)
                self.assertTrue(self.check_short(lambda: shows_bar(other, told)))
                words.append(told.word)
        self.assertEqual(set(words), {"bar", "nobar"})

    def test_bodies_in_the_way(self):
        source = random.Random(91)
        done = 0
        for lanes, bodies, keys, is_still in ((5, 12, 0, False), (5, 12, 2, True), (5, 12, 2, False), (3, 4, 2, False)):
            for _ in range(3):
                level = self.drawn_level(source, lanes, bodies, keys, is_still)
                try:
                    self.check_short(lambda: in_the_way(level), 5)
                    done += 1
                except TooMany:
                    continue
        self.assertGreater(done, 4)

    def great_world(self):
        """All sizes at their bounds: sixty pieces, six hundred links, numbers of seven digits."""
        low, high = -10 ** 6, 10 ** 6
        pieces = [Piece(low, high, (low, low), (high, high))] * 60
        return World(pieces, [(at % 60, (at + 1 + at // 60) % 60, Piece(low, high - at, (low, low), (high, high))) for at in range(600)], (0, 0, 0), [59])

    def drawn_row(self, source, many, below):
        def value(low, high):
            under = source.randint(2, below)
            return number(Fraction(source.randint(low * under, high * under), under))
        return [command for at in range(many) for command in (("hop", at % 60), ("run", value(-1, 1)), ("on", value(0, 9)))]

    def test_engines_and_desks(self):
        source, world = random.Random(92), self.great_world()
        # Numbers of two digits below the line at all sizes; of three for sixty commands.
        for row in (self.drawn_row(source, 1000, 99), self.drawn_row(source, 20, 999)):
            told = self.check_short(lambda: story(world, row))
            self.assertTrue(self.check_short(lambda: shows_story(world, row, told)))
            self.assertTrue(self.check_short(lambda: are_alike(world, row, row)))
            self.assertEqual(self.check_short(lambda: commands_of(commands_text(row))), tuple(row))
        play = played(world, row).play
        self.assertEqual(played(world, self.check_short(lambda: commands_for(world, play))).play, play)
        self.check_short(lambda: film(world, play, number(frac(play[-1][0]) / 999)))
        desk = Desk(world)
        self.check_short(lambda: [desk.told(commands_text([command])) for command in self.drawn_row(source, 67, 99)[:200]])
        self.assertEqual(len(desk), 200)
        self.check_short(lambda: self.undone_and_done_again(desk))
        for line in ("where", "play", "links", "soonest", "still", "front 59 99999"):
            self.check_short(lambda: desk.told(line), 4)
        self.check_short(desk.twin)

    def undone_and_done_again(self, desk):
        lines = [desk.undo() for _ in range(len(desk))]
        for _ in lines:
            desk.redo()
        self.assertRaises(Nothing, desk.redo)

    def test_pictures(self):
        source = random.Random(93)
        world = self.wide_world(source, 44, 45)
        self.check_short(lambda: (columns_of(world), scene(world, 100), scene(world, world.start[0], [world.start])))
        wide = World([Piece(0, 9, (-10 ** 6, -10 ** 6), (10 ** 6, 10 ** 6))] * 9, [], (0, 0, 0), [])
        self.assertEqual(len(self.check_short(lambda: scene(wide, 1))[0]), 2 * 10 ** 6 + 1)
        for piece in (Piece(0, 999, (0, 300), (500, 999)), Piece(0, 2, (0, 0), (10 ** 5, 10 ** 5)), Piece(0, 10 ** 5, (0, 0), (2, 2))):
            self.check_short(lambda: chart(piece, full_front(piece)))
        piece, places = self.sixty(source)
        front = spread(piece, [[(place, one_of(source, 300, 310))] for place in places])
        self.check_short(lambda: chart(piece, front))


if __name__ == "__main__":
    unittest.main()
