import random
import unittest
from fractions import Fraction

from drawn import as_lists, drawn_play, drawn_world, is_right_play, station_of
from helper import NO_NUMBERS, ODDITIES, LaneCase
from lanecross.check_tables import is_closed, is_kept, shows_escape, shows_lasting, shows_run, shows_soonest
from lanecross.errors import BadSpot, BadWorld, Misfit
from lanecross.fronts import covers, full_front, is_behind, is_front, least_of, lowest, spread, through
from lanecross.papers import Denial, Paper
from lanecross.pieces import Piece, at_moment
from lanecross.safe import Alive, Doomed, Lost, Safe, alive_table, escape, is_alive, is_safe, lasting, safe_table
from lanecross.soonest import Never, Soonest, run_to, soonest
from lanecross.tables import table
from lanecross.worlds import World
from reference import frac, number, random_row
from test_safe import opposite

BANK, RAFT, SHORE = Piece(0, 9, (0, 0), (2, 2)), Piece(2, 8, (0, 3), (1, 4)), Piece(0, 9, (3, 3), (6, 6))
WORLD = World([BANK, RAFT, SHORE], [(0, 1, None), (1, 2, None), (0, 2, None)], (0, 1, 0), [2])
BACK = World([BANK, RAFT], [(0, 1, None), (1, 0, None)], (0, 1, 0), [1])
TIGHT = World([Piece(0, 5, (0, 0), (2, 2)), RAFT, SHORE], [(0, 1, None), (1, 2, None)], (0, 1, 0), [2])


def closed_by_words(world, value):
    """Whether rows of stretches are a closed table, by fronts and links alone."""
    if len(value) != len(world.pieces) or not all(is_front(piece, row) for piece, row in zip(world.pieces, value)):
        return False
    if not is_behind(value[world.start[2]], *world.start[:2]):
        return False
    return all(covers(value[other], through(value[one], world.pieces[one], world.pieces[other], window)) for one, other, window in world.links)


def kept_by_words(world, value):
    """Whether rows of stretches are a late table that is kept."""
    back = [piece.backward() for piece in world.pieces]
    if len(value) != len(back) or not all(is_front(piece, opposite(row)) for piece, row in zip(back, value)):
        return False
    return all(covers(opposite(value[one]), through(opposite(value[other]), back[other], back[one], window and window.backward()))
               for one, other, window in world.links)


def moved_corner(source, told, by):
    """Rows with the moment of one corner changed."""
    rows = as_lists(told)
    corners = [corner for row in rows for stretch in row for corner in stretch]
    if corners:
        corner = source.choice(corners)
        corner[1] = number(frac(corner[1]) + by)
    return rows


def spoilt_tables(source, world, told):
    """Tables that are near a right one, some of them right."""
    many = len(world.pieces)
    at = source.randrange(many)
    yield told[:-1]
    yield (*told, ())
    yield told[1:]
    yield told[::-1]
    yield [*told[:at], (), *told[at + 1:]]
    yield [*told[:at], full_front(world.pieces[at]), *told[at + 1:]]
    yield [full_front(piece) if source.randint(0, 1) else () for piece in world.pieces]
    yield [full_front(piece) for piece in world.pieces]
    yield [()] * many
    yield [told[(index + 1) % many] for index in range(many)]
    yield [spread(piece, random_row(source, piece)) for piece in world.pieces]
    yield [least_of(piece, row, spread(piece, random_row(source, piece))) for piece, row in zip(world.pieces, told)]
    yield [row[:-1] for row in told]
    yield [row[1:] for row in told]
    yield [row[::-1] for row in told]
    yield [[stretch[:-1] or stretch for stretch in row] for row in told]
    yield [[stretch[1:] or stretch for stretch in row] for row in told]
    yield table(World(world.pieces, world.links, station_of(source, world), world.goals))
    for by in (1, -1, Fraction(1, 7), Fraction(-1, 1000003)):
        yield moved_corner(source, told, by)


def no_tables(told):
    """Values that are no list of rows of stretches, though they look like one."""
    rows = as_lists(told)
    yield from ODDITIES
    yield {index: row for index, row in enumerate(told)}
    yield [None, *rows[1:]]
    yield [*rows[:-1], 0]
    yield rows[0]
    yield str(told)
    yield [dict(enumerate(row)) for row in rows]
    for spoil in (lambda c: c.append(0), lambda c: c.pop(), lambda c: c.__setitem__(0, True), lambda c: c.__setitem__(1, None),
                  lambda c: c.__setitem__(1, (4, 2)), lambda c: c.__setitem__(0, 0.0)):
        spoilt = as_lists(told)
        for row in spoilt:
            for stretch in row:
                for corner in stretch:
                    spoil(corner)
        yield spoilt
    yield [[stretch[:1] + stretch for stretch in row] for row in rows]  # a corner twice
    yield [[stretch[::-1] for stretch in row] for row in rows]  # corners out of order
    yield [[stretch[:1] + [middle(stretch)] + stretch[1:] for stretch in row] for row in rows]  # on a straight line
    yield [row + row for row in rows]
    yield [[[]] for _ in rows]


def middle(stretch):
    (x, t), (y, u) = stretch[0], stretch[1]
    return [number((frac(x) + frac(y)) / 2), number((frac(t) + frac(u)) / 2)]


class ClosedTest(LaneCase):
    def test_spoilt_tables(self):
        right = wrong = 0
        source = random.Random(501)
        for _ in range(100):
            world = drawn_world(source)
            told = table(world)
            self.assertIs(is_closed(world, told), True)
            self.assertIs(is_closed(world, as_lists(told)), True)
            for value in spoilt_tables(source, world, told):
                try:
                    so = closed_by_words(world, value)
                except ValueError:
                    so = False
                self.assertIs(is_closed(world, value), so)
                right, wrong = right + so, wrong + (not so)
        self.assertGreater(right, 200)
        self.assertGreater(wrong, 500)

    def test_closed_tables_have_the_table(self):
        source = random.Random(502)
        for _ in range(60):
            world = drawn_world(source)
            told = table(world)
            for value in spoilt_tables(source, world, told):
                if is_closed(world, value):
                    self.assertTrue(all(covers(one, other) for one, other in zip(value, told)))

    def test_values_of_all_kinds(self):
        for told in no_tables(table(WORLD)):
            self.assertIs(is_closed(WORLD, told), False)
            self.assertIs(is_kept(WORLD, told), False)
            self.assertIs(shows_soonest(WORLD, Never(told)), False)
            self.assertIs(shows_soonest(WORLD, Soonest(6, soonest(WORLD).run, told)), False)
            self.assertIs(shows_escape(WORLD, (0, 0, 0), Lost(told)), False)
            self.assertIs(shows_lasting(WORLD, (0, 0, 0), Doomed(told)), False)
        self.assertIs(is_closed(value=table(WORLD), world=WORLD), True)
        # Only one of many windows leads out.
        links = [(0, 1, Piece(0, 1, (at, at), (at, at))) for at in range(10, 20)]
        world = World([BANK, SHORE], [*links, (0, 1, Piece(0, 9, (2, 3), (2, 3)))], (0, 1, 0), [1])
        self.assertIs(is_closed(world, table(world)), True)
        touching = World([BANK, Piece(0, 9, (2, 2), (6, 6))], [*links, (0, 1, None)], (0, 1, 0), [1])
        self.assertIs(is_closed(touching, [table(touching)[0], ()]), False)


class SoonestTest(LaneCase):
    def test_told_papers(self):
        """Each told paper is right; each one with a part that is spoilt is not, unless it shows the same."""
        source = random.Random(511)
        spoilt = right = 0
        for _ in range(100):
            world = drawn_world(source)
            told = soonest(world)
            self.assertIs(shows_soonest(world, told), True)
            if not told:
                for value in spoilt_tables(source, world, told.table):
                    so = is_closed(world, value) and all(len(value[goal]) == 0 for goal in world.goals)
                    self.assertIs(shows_soonest(world, Never(value)), so)
                self.assertIs(shows_soonest(world, Soonest(0, [world.start], told.table)), False)
                continue
            self.assertIs(shows_soonest(world, Soonest(told.moment, as_lists(told.run), as_lists(told.table))), True)
            for value in spoilt_tables(source, world, told.table):
                so = is_closed(world, value) and all(frac(lowest(value[goal])[1]) >= frac(told.moment) for goal in world.goals if value[goal])
                self.assertIs(shows_soonest(world, Soonest(told.moment, told.run, value)), so)
                self.assertIs(shows_soonest(world, Never(value)), False)
                spoilt += not so
            for by in (1, -1, Fraction(1, 1000003)):
                self.assertIs(shows_soonest(world, Soonest(number(frac(told.moment) + by), told.run, told.table)), False)
            for run in (told.run[:-1], told.run[1:], told.run[::-1], [*told.run, told.run[-1]], told.run[-1:] * 2):
                so = bool(run) and is_right_play(world, run) and run[0] == world.start and run[-1][0] == told.moment and run[-1][2] in world.goals
                self.assertIs(shows_soonest(world, Soonest(told.moment, run, told.table)), so)
                right += so
            self.assertIs(shows_soonest(world, Soonest(told.moment, [told.run], told.table)), False)
            self.assertIs(shows_soonest(world, Soonest(told.moment, told.run[0], told.table)), False)
        self.assertLess(right, 40)
        self.assertGreater(spoilt, 200)

    def test_other_values(self):
        told = soonest(WORLD)
        parts = told.parts
        for value in (*ODDITIES, parts, Paper("soonest", *parts), Denial("soonest", *parts), Never(told.table), Never(told), Safe(told.run), Alive(told.run),
                      Lost(told.table), Soonest(*parts[::-1]), Soonest(told.run, told.moment, told.table), Soonest(None, told.run, told.table),
                      Soonest([6], told.run, told.table), Soonest(6.0, told.run, told.table), Soonest("6", told.run, told.table),
                      Soonest((12, 2), told.run, told.table), Soonest(6, told, told.table), Soonest(6, told.run, told), Soonest):
            self.assertIs(shows_soonest(WORLD, value), False)

        class Mine(Soonest):
            pass
        self.assertIs(shows_soonest(WORLD, Mine(*parts)), False)
        for value in (soonest(WORLD), Soonest(table=told.table, run=told.run, moment=6), Soonest(6, [(0, 1, 0), (2, 1, 1), (6, 3, 2)], told.table)):
            self.assertIs(shows_soonest(value=value, world=WORLD), True)

    def test_true_is_no_number(self):
        world = World([Piece(0, 9, (0, 0), (2, 2)), Piece(1, 9, (0, 0), (2, 2))], [(0, 1, None)], (0, 1, 0), [1])
        told = soonest(world)
        self.assertEqual(told.moment, 1)
        self.assertIs(shows_soonest(world, told), True)
        self.assertIs(shows_soonest(world, Soonest(True, told.run, told.table)), False)
        self.assertTrue(Soonest(True, told.run, told.table) == told)
        for run in ([(0, True, 0), (1, 1, 1)], [(0, 1, 0), (True, 1, 1)], [(0, 1, 0), (1, 1, True)], [(0, 1, False), (1, 1, 1)]):
            self.assertIs(shows_soonest(world, Soonest(1, run, told.table)), False)
        self.assertIs(shows_soonest(world, Soonest(1, told.run, [[[(0, True), *told.table[0][0][1:]]], told.table[1]])), False)

    def test_runs_that_are_not_soonest(self):
        told, later = soonest(WORLD), [(0, 1, 0), (2, 1, 1), (8, 4, 1), (8, 4, 2)]
        self.assertTrue(is_right_play(WORLD, later))
        self.assertIs(shows_soonest(WORLD, Soonest(8, later, told.table)), False)
        other = table(World(WORLD.pieces, WORLD.links, (4, 1, 1), [2]))
        self.assertIs(shows_soonest(WORLD, Soonest(8, later, other)), False)
        # Ends in no goal; wins on the way only.
        world = World(WORLD.pieces, WORLD.links, (0, 1, 0), [1])
        self.assertIs(shows_soonest(world, soonest(world)), True)
        self.assertIs(shows_soonest(world, Soonest(6, told.run, told.table)), False)
        # There and back, at one moment, wins as soon.
        back = World([BANK, RAFT], [(0, 1, None), (1, 0, None)], (0, 1, 0), [1])
        run = [(0, 1, 0), (2, 1, 1), (2, 1, 0), (2, 1, 1)]
        self.assertIs(shows_soonest(back, Soonest(2, run, table(back))), True)
        # Without goals nothing is won; Never is right.
        none = World(WORLD.pieces, WORLD.links, (0, 1, 0), [])
        self.assertIs(shows_soonest(none, Never(told.table)), True)
        self.assertIs(shows_soonest(none, told), False)

    def test_refused(self):
        for value in (*ODDITIES, BANK, str(WORLD), World):
            for told in (is_closed, shows_soonest, is_kept):
                self.check_part(BadWorld, "world", told, value, value)
            for told in (shows_run, shows_escape, shows_lasting):
                self.check_part(BadWorld, "world", told, value, None, value)
        for told in (shows_run, shows_escape, shows_lasting):
            for value in (*ODDITIES, (0, 1), (0, 1, 3), (0, 1, -1), (0, 1, False), (0, 1, 0, 0), "010", [[0, 1, 0]], {0: 0, 1: 1, 2: 0}):
                self.check_part(BadSpot, "station", told, WORLD, value, None)
            for value in NO_NUMBERS:
                self.check_part(BadSpot, "station", told, WORLD, (value, 1, 0), None)
                self.check_part(BadSpot, "station", told, WORLD, [0, value, 0], None)
            for value in ((10, 4, 2), (-1, 1, 0), (0, 3, 0), (1, 0, 1)):
                self.check_part(Misfit, "station", told, WORLD, value, None)
            self.assertIs(told(value=None, station=(0, 1, 0), world=WORLD), False)


class RunTest(LaneCase):
    def test_runs(self):
        source = random.Random(521)
        right = twice = 0
        for _ in range(80):
            world = drawn_world(source)
            play = drawn_play(source, world, world.start)
            self.assertIs(shows_run(world, play[-1], play), True)
            self.assertIs(shows_run(world, as_lists(play[-1]), as_lists(play)), True)
            pieces = [station[2] for station in play]
            twice += any(pieces[at] in pieces[:at - 1] for at in range(2, len(pieces)))
            self.assertTrue(is_right_play(world, run_to(world, play[-1])))
            for at in range(len(play)):
                self.assertIs(shows_run(world, play[at], play), play[at] == play[-1])
                self.assertIs(shows_run(world, play[-1], play[at:]), play[at] == world.start)
                moment = number(frac(play[at][0]) + 1)
                spoilt = [*play[:at], (moment, *play[at][1:]), *play[at + 1:]]
                so = is_right_play(world, spoilt) and spoilt[0] == world.start and spoilt[-1] == play[-1]
                self.assertIs(shows_run(world, play[-1], spoilt), so)
                right += so
            self.assertIs(shows_run(world, play[-1], [*play, play[-1]]), False)
        self.assertGreater(twice, 20)

    def test_values_of_all_kinds(self):
        run = [(0, 1, 0), (2, 1, 1), (6, 3, 2)]
        self.assertIs(shows_run(WORLD, [6, 3, 2], run), True)
        for value in (*ODDITIES, run[-1], [run], {0: run[0]}, Soonest(6, run, None), Safe(run), [(0, True, 0), *run[1:]], [*run[:2], (6, 3, 2.0)], run[:2]):
            self.assertIs(shows_run(WORLD, (6, 3, 2), value), False)
        self.assertIs(shows_run(WORLD, (0, 1, 0), [[0, 1, 0]]), True)
        self.assertIs(shows_run(WORLD, (0, 1, 0), []), False)


class KeptTest(LaneCase):
    def late_tables(self, source, world):
        yield [tuple(opposite(full_front(piece.backward()))) for piece in world.pieces]
        yield [()] * len(world.pieces)
        for told in (safe_table(world), alive_table(world)):
            yield told
            back = World([piece.backward() for piece in world.pieces], [], (number(-frac(world.start[0])), *world.start[1:]), [])
            for value in spoilt_tables(source, back, [opposite(row) for row in told]):
                try:
                    yield [opposite(row) for row in value]
                except (TypeError, ValueError):
                    pass

    def test_late_tables(self):
        source = random.Random(531)
        right = wrong = 0
        for _ in range(60):
            world = drawn_world(source)
            for value in self.late_tables(source, world):
                try:
                    so = kept_by_words(world, value)
                except ValueError:
                    so = False
                self.assertIs(is_kept(world, value), so)
                self.assertIs(is_kept(world, as_lists(value)), so)
                right, wrong = right + so, wrong + (not so)
                for station in (world.start, station_of(source, world)):
                    self.check_denials(world, station, value, so)
        self.assertGreater(right, 300)
        self.assertGreater(wrong, 500)

    def check_denials(self, world, station, value, so):
        """Right are those of a table that is kept, has all that is needed in time, and the station not."""
        if not so:
            self.assertIs(shows_escape(world, station, Lost(value)), False)
            self.assertIs(shows_lasting(world, station, Doomed(value)), False)
            return
        late = not is_behind(opposite(value[station[2]]), number(-frac(station[0])), station[1])
        goals = all(covers(opposite(value[goal]), full_front(world.pieces[goal].backward())) for goal in world.goals)
        ends = True
        for row, piece in zip(value, world.pieces):
            places = sorted(set(at_moment(piece, world.end) or ()), key=frac)
            if places:
                ends = ends and covers(opposite(row), [[(place, number(-frac(world.end))) for place in places]])
        self.assertIs(shows_escape(world, station, Lost(value)), late and goals)
        self.assertIs(shows_lasting(world, station, Doomed(value)), late and ends)
        if late and goals:
            self.assertIs(is_safe(world, station), False)
        if late and ends:
            self.assertIs(is_alive(world, station), False)

    def test_told_papers(self):
        source = random.Random(532)
        counts = {"safe": 0, "lost": 0, "alive": 0, "doomed": 0}
        for _ in range(60):
            world = drawn_world(source)
            for station in (world.start, station_of(source, world), station_of(source, world)):
                for told, shows, made in ((escape(world, station), shows_escape, (Safe, Lost)), (lasting(world, station), shows_lasting, (Alive, Doomed))):
                    counts[told.word] += 1
                    self.assertIs(shows(world, as_lists(station), told), True)
                    self.assertIs(shows(world, station, made[not told](as_lists(told.parts[0]))), True)
                    for value in (Paper(told.word, *told.parts), Denial(told.word, *told.parts), told.parts, made[bool(told)](*told.parts), Soonest(1, *told.parts * 2),
                                  made[not told](told), made[not told](told.parts), None):
                        self.assertIs(shows(world, station, value), False)
        self.assertGreater(min(counts.values()), 30)

    def test_spoilt_plays(self):
        source = random.Random(533)
        right = wrong = 0
        for _ in range(50):
            world = drawn_world(source)
            play = drawn_play(source, world, station_of(source, world))
            for at in range(len(play)):
                for value in (play[:at], play[at:], play[:at] + play[at + 1:], [*play[:at], (number(frac(play[at][0]) + 1), *play[at][1:]), *play[at + 1:]],
                              [*play[:at], (*play[at][:2], 0), *play[at + 1:]], play):
                    so = bool(value) and is_right_play(world, value) and value[0] == play[0]
                    self.assertIs(shows_escape(world, play[0], Safe(value)), so and value[-1][2] in world.goals)
                    self.assertIs(shows_lasting(world, play[0], Alive(value)), so and value[-1][0] == world.end)
                    self.assertIs(shows_escape(world, play[0], Alive(value)), False)
                    self.assertIs(shows_lasting(world, play[0], Safe(value)), False)
                    right, wrong = right + so, wrong + (not so)
        self.assertTrue(right > 100 and wrong > 100)

    def test_by_hand(self):
        way = [(3, (1, 2), 0), (4, (3, 2), 1), (8, 3, 2)]
        late = safe_table(TIGHT)
        for value, so in ((Safe(way), True), (Safe(way + [(9, 3, 2)]), True), (Safe(way[:2]), False), (Safe(way[1:]), False), (Lost(late), False),
                          (Safe([(3, [1, 2], 0), [4, [3, 2], 1], (8, 3, 2)]), True), (Safe([(3, (1, 2), False), *way[1:]]), False)):
            self.assertIs(shows_escape(TIGHT, way[0], value), so)
        full = [opposite(full_front(piece.backward())) for piece in TIGHT.pieces]
        for value, so in ((Lost(late), True), (Lost(full), False), (Lost([late[0], late[1], ()]), False), (Lost([(), full[1], full[2]]), False),
                          (Lost([late[0], full[1], full[2]]), True), (Lost([late[0], late[1], full[2]]), True), (Doomed(late), False)):
            self.assertIs(shows_escape(TIGHT, (4, 0, 0), value), so)
        self.assertIs(shows_lasting(TIGHT, (9, 6, 2), Alive([(9, 6, 2)])), True)
        self.assertIs(shows_lasting(TIGHT, (8, 4, 1), Alive([(8, 4, 1)])), False)
        self.assertIs(is_kept(world=TIGHT, value=late), True)


if __name__ == "__main__":
    unittest.main()
