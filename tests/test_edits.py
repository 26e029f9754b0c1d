import random
import unittest
from fractions import Fraction

from drawn import as_lists, drawn_world, is_right_play
from helper import ODDITIES, LaneCase
from lanecross.edits import Bar, Needed, NoBar, delays, least_bar, needed, needed_links
from lanecross.errors import BadWorld, Refused, TooMany
from lanecross.papers import Denial, Paper
from lanecross.pieces import Piece
from lanecross.tables import soonest_by, table
from lanecross.turned import mirrored, moved, stretched
from lanecross.worlds import World
from reference import frac, number
from steps import all_lots, bars, even_world, ferries, in_question, less, soonest_by_steps

BANK, RAFT, SHORE, FERRY = Piece(0, 9, (0, 0), (2, 2)), Piece(2, 8, (0, 3), (1, 4)), Piece(0, 9, (3, 3), (6, 6)), Piece(3, 9, (1, 2), (4, 5))
WORLD = World([BANK, RAFT, SHORE, FERRY], [(0, 1, None), (1, 2, None), (0, 3, None), (3, 2, None)], (0, 1, 0), [2])
NEVER = {"why": "never"}
PAPERS = ((Needed, "needed", ("pieces", "tables", "runs"), Paper), (Bar, "bar", ("pieces", "table"), Paper), (NoBar, "nobar", ("run",), Denial))


def turns(world):
    """The world turned, with the factor of its times."""
    yield world, 1
    yield mirrored(world), 1
    yield moved(world, (-7, 3), (5, 2)), 1
    yield stretched(world, (2, 3)), Fraction(2, 3)


class PapersTest(LaneCase):
    def test_parts(self):
        for made, word, names, kind in PAPERS:
            self.check_paper_class(made, word, names, kind)
        self.assertFalse(Bar(1, 2) == Needed(1, 2, 3))


class NeededTest(LaneCase):
    def check_run(self, world, run, moment):
        """A run to a station of a goal at the soonest moment."""
        self.assertTrue(is_right_play(world, run))
        self.assertTrue(all(isinstance(part, tuple) for part in (run, *run)))
        self.assertEqual((run[0], run[-1][0]), (world.start, number(moment)))
        self.assertIn(run[-1][2], world.goals)

    def check_never(self, world):
        for told in (needed_links, delays, needed):
            self.check_raises(Refused, NEVER, told, world)
        self.assertTrue(least_bar(world) == Bar((), table(world)))

    def check_world(self, world, soonest, by, by_link):
        """All answers, if this is the soonest moment, and by tells it without a piece, by_link without a link."""
        without = [by(at) for at in range(len(world.pieces))]
        pieces = [at for at, moment in enumerate(without) if moment is None]
        self.assertEqual(delays(world), tuple(None if moment is None else number(moment - soonest) for moment in without))
        self.assertTrue(all(moment is None or moment >= soonest for moment in without))
        self.assertEqual(needed_links(world), tuple(at for at in range(len(world.links)) if by_link(at) is None))
        told = needed(world)
        self.assertEqual((told.pieces, len(told.tables), len(told.runs)), (tuple(pieces), len(pieces), len(world.pieces) - len(pieces)))
        for at, fronts in zip(pieces, told.tables):
            self.assertEqual(fronts, table(less(world, [at])))
            self.assertTrue(all(fronts[goal] == () for goal in world.goals))
        others = [at for at in range(len(world.pieces)) if at not in pieces]
        for at, run in zip(others, told.runs):
            self.check_run(less(world, [at]), run, without[at])
        return pieces

    def test_step_by_step(self):
        source = random.Random(911)
        counts = {"won": 0, "never": 0, "needed": 0, "late": 0, "links": 0}
        for _ in range(110):
            plain = even_world(source, 5) if source.randint(0, 1) else ferries(source)
            soonest = soonest_by_steps(plain)
            self.assertEqual(soonest_by(plain), None if soonest is None else number(soonest))
            if soonest is None:
                self.check_never(plain)
                counts["never"] += 1
                continue
            without = [soonest_by_steps(plain, [at]) for at in range(len(plain.pieces))]
            linkless = [soonest_by_steps(plain, [], [at]) for at in range(len(plain.links))]
            for world, factor in turns(plain):
                first = frac(soonest_by(world))
                pieces = self.check_world(world, first, lambda at: None if without[at] is None else first + (without[at] - soonest) * factor,
                                          lambda at: linkless[at])
            counts["won"] += 1
            counts["needed"] += len(pieces)
            counts["late"] += sum(moment is not None and moment > soonest for moment in without)
            counts["links"] += len(needed_links(plain))
        self.assertGreater(min(counts.values()), 10, counts)

    def test_drawn_worlds(self):
        """Of any paces and numbers, by the soonest moments of worlds with less."""
        source = random.Random(912)
        won = never = 0
        for _ in range(120):
            world = drawn_world(source, 5)
            soonest = soonest_by(world)
            if soonest is None:
                self.check_never(world)
                never += 1
                continue

            def by(pieces, links):
                moment = soonest_by(less(world, pieces, links))
                return None if moment is None else frac(moment)
            self.check_world(world, frac(soonest), lambda at: by([at], []), lambda at: by([], [at]))
            won += 1
        self.assertTrue(won > 40 and never > 20, (won, never))

    def test_made_again(self):
        source = random.Random(913)
        for _ in range(40):
            world = drawn_world(source, 4)
            again = World(as_lists(world.pieces), [list(link) for link in world.links], as_lists(world.start), list(world.goals))
            self.assertTrue(least_bar(again) == least_bar(world) if len(in_question(world)) <= 6 else True)
            if soonest_by(world) is not None:
                self.assertTrue(needed(again) == needed(world))
                self.assertEqual((delays(again), needed_links(again)), (delays(world), needed_links(world)))

    def test_by_hand(self):
        self.assertEqual((delays(world=WORLD), needed_links(world=WORLD)), ((None, 0, None, 2), ()))
        self.assertEqual(needed(world=WORLD).pieces, (0, 2))
        # A goal at the start is won at once, whatever is gone.
        here = World([BANK, RAFT], [(0, 1, None)], (0, 1, 0), [0])
        self.assertEqual((delays(here), needed_links(here), needed(here)), ((0, 0), (), Needed((), (), [[(0, 1, 0)], [(0, 1, 0)]])))
        chain = World([BANK, RAFT, SHORE], [(0, 1, None), (1, 2, None), (2, 1, None)], (0, 1, 0), [2])
        self.assertEqual((delays(chain), needed_links(chain), needed(chain).runs), ((None, None, None), (0, 1), ()))
        # Two links for one hop, each of them let through by windows at other moments; then at one moment only.
        ways = [(0, 1, Piece(2, 3, (0, 0), (9, 9))), (0, 1, Piece(4, 5, (0, 0), (9, 9))), (1, 2, None)]
        self.assertEqual(needed_links(World([BANK, RAFT, SHORE], ways, (0, 1, 0), [2])), (2,))
        self.assertEqual(needed_links(World([BANK, RAFT, SHORE], [ways[0], ways[2]], (0, 1, 0), [2])), (0, 1))
        # One goal of two is needed by nobody.
        two = World([BANK, BANK, BANK], [(0, 1, None), (0, 2, Piece(5, 6, (0, 0), (2, 2)))], (0, 1, 0), [1, 2])
        self.assertEqual((delays(two), needed_links(two)), ((None, 5, 0), ()))

    def test_fractions(self):
        slow = World([BANK, Piece(0, 9, (3, (3, 2)), (4, (5, 2))), Piece(0, 9, (3, (1, 3)), (4, (4, 3)))], [(0, 1, None), (0, 2, None)], (0, (1, 7), 0), [1, 2])
        self.assertEqual((soonest_by(slow), delays(slow)), ((27, 8), (None, 0, (21, 8))))


class BarTest(LaneCase):
    def check_bar(self, world, is_won):
        """The least bar, if some function tells whether a world is won without a lot of pieces."""
        found, told = bars(world, is_won), least_bar(world)
        if found:
            self.assertTrue(told == Bar(found[0], table(less(world, found[0]))))
            self.assertTrue(all(told.table[goal] == () for goal in world.goals))
            return len(found[0])
        self.assertIsInstance(told, NoBar)
        self.assertEqual(told.run[0], world.start)
        self.assertTrue(is_right_play(world, told.run))
        self.assertIn(told.run[-1][2], world.goals)
        self.assertTrue({station[2] for station in told.run} <= {world.start[2], *world.goals})
        return "none"

    def test_step_by_step(self):
        source, counts = random.Random(921), {}
        for _ in range(200):
            world = even_world(source, 6) if source.randint(0, 3) else ferries(source)
            found = self.check_bar(world, lambda lot: soonest_by_steps(world, lot) is not None)
            counts[found] = counts.get(found, 0) + 1
        self.assertTrue(all(counts.get(found, 0) > 5 for found in ("none", 0, 1, 2)), counts)

    def test_drawn_worlds(self):
        source, counts = random.Random(922), {}
        for _ in range(120):
            world = drawn_world(source, 6)
            found = self.check_bar(world, lambda lot: soonest_by(less(world, lot)) is not None)
            counts[found] = counts.get(found, 0) + 1
        self.assertTrue(all(counts.get(found, 0) > 3 for found in ("none", 0)), counts)

    def side_by_side(self, many):
        """A bank, pieces side by side that all lead on, and a shore."""
        links = [(0, at + 2, None) for at in range(many)] + [(at + 2, 1, None) for at in range(many)]
        return World([BANK, SHORE, *[Piece(0, 9, (1, 1), (4, 4))] * many], links, (0, 1, 0), [1])

    def test_six_and_seven(self):
        for many in range(7):
            self.assertTrue(least_bar(self.side_by_side(many)) == Bar(tuple(range(2, many + 2)), table(self.side_by_side(0))[:2] + ((),) * many))
        for many in (7, 8, 30):
            self.check_raises(TooMany, {"what": "pieces", "most": 6}, least_bar, self.side_by_side(many))
        seven = self.side_by_side(7)
        # Six in question, and one more that is a goal; then one more that is in question, with a goal at once, or none ever.
        self.assertTrue(least_bar(World(seven.pieces, seven.links, (0, 1, 0), [1, 8])).word == "nobar")
        for goals in ([0], [], [1]):
            self.check_raises(TooMany, {"what": "pieces", "most": 6}, least_bar, World([*seven.pieces, BANK], seven.links, (0, 1, 0), goals))

    def test_by_hand(self):
        self.assertTrue(least_bar(world=WORLD) == Bar((1, 3), table(less(WORLD, [1, 3]))))
        self.assertTrue(least_bar(World([BANK, RAFT], [(0, 1, None)], (0, 1, 0), [0, 1])) == NoBar([(0, 1, 0)]))
        self.assertTrue(least_bar(World([BANK, RAFT], [(0, 1, None)], (0, 1, 0), [])) == Bar((), table(World([BANK, RAFT], [(0, 1, None)], (0, 1, 0), []))))
        # Two ways, the second of which comes by the first piece of the first: 1 is a bar, though 2 is another one.
        chain = World([BANK, BANK, BANK, BANK], [(0, 1, None), (1, 2, None), (2, 3, None)], (0, 1, 0), [3])
        self.assertEqual(least_bar(chain).pieces, (1,))
        crossed = World([BANK] * 5, [(0, 1, None), (0, 2, None), (1, 3, None), (2, 3, None), (3, 4, None)], (0, 1, 0), [4])
        self.assertEqual(least_bar(crossed).pieces, (3,))

    def test_facts(self):
        """A needed piece that can be in a bar is one by itself, and each bar of one piece is needed."""
        source = random.Random(923)
        alone = 0
        for _ in range(80):
            world = even_world(source, 5) if source.randint(0, 1) else ferries(source)
            if soonest_by(world) is None:
                continue
            own, found = needed(world).pieces, bars(world, lambda lot: soonest_by_steps(world, lot) is not None)
            self.assertEqual({at for at in own if at in in_question(world)}, {lot[0] for lot in found if len(lot) == 1})
            self.assertEqual(world.start[2] in own, world.start[2] not in world.goals)
            self.assertTrue(all(lot in found for lot in all_lots(in_question(world)) if set(lot) & set(own)))
            alone += any(at in in_question(world) for at in own)
        self.assertGreater(alone, 10)


class RefusedTest(LaneCase):
    def test_refused(self):
        for value in (*ODDITIES, BANK, str(WORLD), World):
            for told in (needed_links, delays, needed, least_bar):
                self.check_part(BadWorld, "world", told, value)
        apart = World([BANK, SHORE], [(0, 1, None)], (0, 1, 0), [1])
        many = World([BANK] * 60, [(0, at, None) for at in range(1, 60)], (0, 1, 0), [])
        for world in (apart, many, World([BANK], [], (0, 1, 0), [])):
            for told in (needed_links, delays, needed):
                self.check_raises(Refused, NEVER, told, world)


if __name__ == "__main__":
    unittest.main()
