import random
import unittest
from fractions import Fraction

from drawn import as_lists, drawn_world, is_right_play
from helper import ODDITIES, LaneCase
from lanecross.check_edits import shows_bar, shows_needed
from lanecross.check_tables import is_closed
from lanecross.edits import Bar, Needed, NoBar, delays, least_bar, needed, needed_links
from lanecross.errors import BadWorld, Refused
from lanecross.fronts import full_front
from lanecross.papers import Denial, Paper
from lanecross.pieces import Piece
from lanecross.safe import is_safe
from lanecross.soonest import Never, Soonest, run_to, soonest
from lanecross.tables import soonest_by, table
from lanecross.worlds import World
from reference import frac, number
from steps import all_lots, bars, even_world, ferries, in_question, less, soonest_by_steps
from test_check_tables import moved_corner, no_tables, spoilt_tables

BANK, RAFT, SHORE, FERRY = Piece(0, 9, (0, 0), (2, 2)), Piece(2, 8, (0, 3), (1, 4)), Piece(0, 9, (3, 3), (6, 6)), Piece(3, 9, (1, 2), (4, 5))
WORLD = World([BANK, RAFT, SHORE, FERRY], [(0, 1, None), (1, 2, None), (0, 3, None), (3, 2, None)], (0, 1, 0), [2])
NEAR = World([BANK, Piece(0, 9, (1, 1), (4, 4))], [(0, 1, None)], (0, 1, 0), [1])


def is_shut(world, value):
    """Whether a value is a closed table in which goals have empty fronts."""
    return is_closed(world, value) and all(len(value[goal]) == 0 for goal in world.goals)


def wins(world, run):
    return len(run) > 0 and is_right_play(world, run) and tuple(run[0]) == world.start and any(station[2] in world.goals for station in run)


def worlds(seed, many):
    """Worlds of any kind in which some play wins."""
    source = random.Random(seed)
    while many:
        world = (even_world, ferries, drawn_world)[source.randrange(3)](*[source])
        if soonest_by(world) is not None:
            many -= 1
            yield source, world


def spoilt_runs(source, world, run):
    """Rows of stations that are near a right run, some of them right."""
    at = source.randrange(len(run))
    later = number(frac(run[at][0]) + 1)
    yield run[:-1]
    yield run[1:]
    yield run[::-1]
    yield [*run, run[-1]]
    yield [*run, (number(frac(run[-1][0]) + Fraction(1, 7)), *run[-1][1:])]
    yield [*run[:at], (later, *run[at][1:]), *run[at + 1:]]
    yield [*run[:at], (*run[at][:2], source.randrange(len(world.pieces))), *run[at + 1:]]
    yield run[:1]
    yield [(run[0][0], number(frac(run[0][1]) + Fraction(1, 999)), run[0][2]), *run[1:]]


class NeededTest(LaneCase):
    def test_told_papers(self):
        """Each told one is right; each one of which a part is spoilt is not, unless this is right, too."""
        right = wrong = 0
        for source, world in worlds(931, 70):
            told = needed(world)
            others = [at for at in range(len(world.pieces)) if at not in told.pieces]
            self.assertIs(shows_needed(world, told), True)
            self.assertIs(shows_needed(world, Needed(list(told.pieces), as_lists(told.tables), as_lists(told.runs))), True)
            for at, piece in enumerate(told.pieces):
                for value in spoilt_tables(source, less(world, [piece]), told.tables[at]):
                    so = is_shut(less(world, [piece]), value)
                    self.assertIs(shows_needed(world, Needed(told.pieces, [*told.tables[:at], value, *told.tables[at + 1:]], told.runs)), so)
                    right, wrong = right + so, wrong + (not so)
                self.assertIs(shows_needed(world, Needed([*told.pieces[:at], *told.pieces[at + 1:]], [*told.tables[:at], *told.tables[at + 1:]],
                                                         told.runs)), False)
            for at, piece in enumerate(others):
                for value in spoilt_runs(source, world, told.runs[at]):
                    so = wins(less(world, [piece]), value)
                    self.assertIs(shows_needed(world, Needed(told.pieces, told.tables, [*told.runs[:at], value, *told.runs[at + 1:]])), so)
                    right, wrong = right + so, wrong + (not so)
        self.assertTrue(right > 150 and wrong > 800, (right, wrong))

    def test_parts_exchanged(self):
        exchanged = 0
        for source, world in worlds(932, 60):
            told = needed(world)
            pieces, tables, runs = told.parts
            for value in (Needed(pieces, tables[:-1], runs), Needed(pieces, [*tables, table(world)], runs), Needed(pieces, tables, runs[:-1]),
                          Needed(pieces, tables, [*runs, soonest(world).run]), Needed(pieces[:-1], tables, runs), Needed(pieces, runs, tables),
                          Needed(pieces[1:], tables[1:], runs), Needed((), (), runs), Needed(range(len(world.pieces)), tables, runs),
                          Needed(pieces[::-1], tables[::-1], runs), Needed([*pieces, *pieces[-1:]], [*tables, *tables[-1:]], runs),
                          Needed(tables, pieces, runs), Needed(pieces, tables, (runs,)), Needed((pieces,), tables, runs), Needed(pieces, (tables,), runs)):
                # What is exchanged may be the same.
                self.assertIs(shows_needed(world, value), value == told)
                exchanged += not value == told
            for one in range(len(tables)):
                for other in range(one):
                    swapped = list(tables)
                    swapped[one], swapped[other] = swapped[other], swapped[one]
                    so = is_shut(less(world, [pieces[one]]), swapped[one]) and is_shut(less(world, [pieces[other]]), swapped[other])
                    self.assertIs(shows_needed(world, Needed(pieces, swapped, runs)), so)
            for at, piece in enumerate(at for at in range(len(world.pieces)) if at not in pieces):
                # A piece that is not needed is told to be: no table shows this.
                row = sorted([*pieces, piece])
                for value in (table(world), table(less(world, [piece])), [()] * len(world.pieces)):
                    more = [*tables[:row.index(piece)], value, *tables[row.index(piece):]]
                    self.assertIs(shows_needed(world, Needed(row, more, [*runs[:at], *runs[at + 1:]])), False)
            for piece in pieces:
                # A needed one is told not to be: no run shows this.
                row = [at for at in range(len(world.pieces)) if at not in pieces or at == piece]
                more = [*runs[:row.index(piece)], soonest(world).run, *runs[row.index(piece):]]
                kept = [at for at in pieces if at != piece]
                self.assertIs(shows_needed(world, Needed(kept, [tables[pieces.index(at)] for at in kept], more)), False)
        self.assertGreater(exchanged, 500)

    def test_runs_that_are_later_or_longer(self):
        told = needed(WORLD)
        by_raft, by_ferry = [(0, 1, 0), (2, 1, 1), (7, (7, 2), 1), (7, (7, 2), 2), (8, 4, 2)], [(0, 1, 0), (5, 2, 3), (8, 4, 2), (8, 4, 2)]
        self.assertIs(shows_needed(WORLD, Needed(told.pieces, told.tables, [told.runs[0], by_raft])), True)
        self.assertIs(shows_needed(WORLD, Needed(told.pieces, told.tables, [by_ferry[:3], by_raft[:4]])), True)
        self.assertIs(shows_needed(WORLD, Needed(told.pieces, told.tables, [by_ferry, by_raft])), False)
        self.assertIs(shows_needed(WORLD, Needed(told.pieces, told.tables, [by_raft, by_ferry[:3]])), False)
        # A run may go on behind the goal, and come to it again.
        back = World(WORLD.pieces, [*WORLD.links, (2, 3, None)], (0, 1, 0), [2])
        told = needed(back)
        for run in ([*told.runs[0], (told.runs[0][-1][0], told.runs[0][-1][1], 3)], [*told.runs[0], (6, told.runs[0][-1][1], 3)]):
            self.assertIs(shows_needed(back, Needed(told.pieces, told.tables, [run, told.runs[1]])), wins(back, run))

    def test_values_of_all_kinds(self):
        told = needed(WORLD)
        for value in (*ODDITIES, told.parts, Paper("needed", *told.parts), Denial("needed", *told.parts), soonest(WORLD), least_bar(WORLD), Needed,
                      Needed(None, None, None), Needed("02", told.tables, told.runs), Needed((0, 2.0), told.tables, told.runs),
                      Needed((0, 3), told.tables, told.runs), Needed((0, 4), told.tables, told.runs), Needed((-2, 2), told.tables, told.runs),
                      Needed({0: 0, 2: 2}, told.tables, told.runs), Needed((0, (2,)), told.tables, told.runs), Needed((2, 0), told.tables, told.runs)):
            self.assertIs(shows_needed(WORLD, value), False)
        for value in no_tables(told.tables[0]):
            self.assertIs(shows_needed(WORLD, Needed(told.pieces, [value, told.tables[1]], told.runs)), False)
            self.assertIs(shows_bar(NEAR, Bar((), value)), False)
            self.assertIs(shows_needed(WORLD, Needed(told.pieces, value, told.runs)), False)
        for value in (*ODDITIES, soonest(WORLD), told.runs):
            self.assertIs(shows_needed(WORLD, Needed(told.pieces, told.tables, [value, told.runs[1]])), False)
            self.assertIs(shows_needed(WORLD, Needed(told.pieces, told.tables, value)), False if value is not told.runs else True)
            self.assertIs(shows_bar(NEAR, NoBar(value)), False)

        class Mine(Needed):
            pass
        self.assertIs(shows_needed(WORLD, Mine(*told.parts)), False)
        self.assertIs(shows_needed(value=told, world=WORLD), True)

    def test_no_truth_for_a_number(self):
        world = World([BANK, BANK, BANK], [(0, 1, None), (0, 2, None)], (0, 1, 0), [1])
        told = needed(world)
        self.assertEqual((told.pieces, told.runs), ((0, 1), (((0, 1, 0), (0, 1, 1)),)))
        self.assertIs(shows_needed(world, told), True)
        for spoilt in (Needed((False, 1), told.tables, told.runs), Needed((0, True), told.tables, told.runs), Needed((0, 1), told.tables, [[(False, 1, 0), (0, 1, 1)]]),
                       Needed((0, 1), told.tables, [[(0, True, 0), (0, 1, 1)]]), Needed((0, 1), told.tables, [[(0, 1, 0), (0, 1, True)]]),
                       Needed((0, 1), told.tables, [[(0, 1, False), (0, 1, 1)]]),
                       Needed((0, 1), [[[[(0, True), (True, 0), (2, 1)]], [], []], told.tables[1]], told.runs)):
            self.assertTrue(spoilt == told)
            self.assertIs(shows_needed(world, spoilt), False)

    def test_full_tables(self):
        """All first moments, where nobody can come to a goal at all, are right, too."""
        chain = World([BANK, RAFT, SHORE], [(0, 1, None), (1, 2, None)], (0, 1, 0), [2])
        full = [full_front(piece) for piece in chain.pieces]
        least = needed(chain)
        self.assertEqual(least.pieces, (0, 1, 2))
        wide = [(full[0], (), ()), (full[0], full[1], ()), (full[0], full[1], ())]
        self.assertIs(shows_needed(chain, Needed((0, 1, 2), wide, ())), True)
        for at in range(3):
            self.assertIs(shows_needed(chain, Needed((0, 1, 2), [*wide[:at], full, *wide[at + 1:]], ())), False)
            self.assertIs(shows_needed(chain, Needed((0, 1, 2), [*wide[:at], [(), *wide[at][1:]], *wide[at + 1:]], ())), False)
        # The raft leads to the shore without the bank, and has to be had from it without the shore.
        self.assertIs(shows_needed(chain, Needed((0, 1, 2), [wide[1], *wide[1:]], ())), False)
        self.assertIs(shows_needed(chain, Needed((0, 1, 2), [*wide[:2], wide[0]], ())), False)
        self.assertIs(shows_needed(chain, Needed((0, 1, 2), [wide[0], wide[1], moved_corner(random.Random(1), wide[2], 1)], ())), False)


class BarTest(LaneCase):
    def test_told_papers(self):
        source, counts = random.Random(941), {"bar": 0, "nobar": 0, "right": 0, "wrong": 0}
        for _ in range(90):
            world = (even_world, ferries, drawn_world)[source.randrange(3)](source)
            told = least_bar(world)
            counts[told.word] += 1
            self.assertIs(shows_bar(world, told), True)
            if not told:
                for value in spoilt_runs(source, world, told.run):
                    so = wins(world, value) and all(station[2] not in in_question(world) for station in value)
                    self.assertIs(shows_bar(world, NoBar(value)), so)
                    counts["right" if so else "wrong"] += 1
                for lot in all_lots(in_question(world)):
                    self.assertIs(shows_bar(world, Bar(lot, table(less(world, lot)))), False)
                continue
            self.assertIs(shows_bar(world, Bar(list(told.pieces), as_lists(told.table))), True)
            for value in spoilt_tables(source, less(world, told.pieces), told.table):
                so = is_shut(less(world, told.pieces), value)
                self.assertIs(shows_bar(world, Bar(told.pieces, value)), so)
                counts["right" if so else "wrong"] += 1
            self.assertIs(shows_bar(world, NoBar([world.start])), False)
            if soonest(world):
                self.assertIs(shows_bar(world, NoBar(soonest(world).run)), False)
        self.assertGreater(min(counts.values()), 10, counts)

    def test_bars_of_all_lengths(self):
        """Each lot: with its table it is right just if it is a bar, however long it is."""
        source = random.Random(942)
        longer = no_bars = 0
        for _ in range(60):
            world = even_world(source, 5) if source.randint(0, 1) else ferries(source)
            found = bars(world, lambda lot: soonest_by_steps(world, lot) is not None)
            for lot in all_lots(in_question(world)):
                self.assertIs(shows_bar(world, Bar(lot, table(less(world, lot)))), lot in found)
                longer += lot in found and len(lot) > len(found[0])
                no_bars += lot not in found
                if lot in found:
                    # The table of more that is left out need not be closed with less left out.
                    for value in (table(world), table(less(world, lot[1:])), table(less(world, in_question(world)))):
                        self.assertIs(shows_bar(world, Bar(lot, value)), is_shut(less(world, lot), value))
                    self.assertIs(shows_bar(world, Bar(lot[::-1], table(less(world, lot)))), len(lot) < 2)
                    self.assertIs(shows_bar(world, Bar((*lot, *lot[-1:]), table(less(world, lot)))), len(lot) == 0)
            for outside in (world.start[2], *world.goals, len(world.pieces), -1):
                self.assertIs(shows_bar(world, Bar([outside], table(less(world, [outside])))), False)
                self.assertIs(shows_bar(world, Bar(sorted({*in_question(world), outside}), table(less(world, [*in_question(world), outside])))), False)
        self.assertTrue(longer > 30 and no_bars > 30, (longer, no_bars))

    def test_many_in_question(self):
        """A bar is shown in a world of any size, though no least bar is told."""
        many = 9
        links = [(0, at + 2, None) for at in range(many)] + [(at + 2, 1, None) for at in range(many)]
        world = World([BANK, SHORE, *[Piece(0, 9, (1, 1), (4, 4))] * many], links, (0, 1, 0), [1])
        whole = range(2, many + 2)
        self.assertIs(shows_bar(world, Bar(tuple(whole), table(less(world, whole)))), True)
        self.assertIs(shows_bar(world, Bar(tuple(whole)[:-1], table(less(world, whole[:-1])))), False)
        self.assertIs(shows_bar(world, NoBar([(0, 1, 0)])), False)

    def test_values_of_all_kinds(self):
        told, none = least_bar(WORLD), least_bar(NEAR)
        for world, paper in ((WORLD, told), (NEAR, none)):
            self.assertIs(shows_bar(value=paper, world=world), True)
            for value in (*ODDITIES, paper.parts, Paper(paper.word, *paper.parts), Denial(paper.word, *paper.parts), Bar, NoBar, Never(told.table),
                          Soonest(0, none.run, told.table), needed(WORLD), Bar(told.table, told.pieces), Bar(None, None), NoBar(None), NoBar(none),
                          Bar("13", told.table), Bar((1, 3.0), told.table), Bar({1: 1, 3: 3}, told.table), Bar(1, told.table), Bar((True, 3), told.table),
                          Bar(((1, 3),), told.table), NoBar([none.run]), NoBar(none.run[-1])):
                self.assertIs(shows_bar(world, value), False)
        self.assertTrue(Bar((True, 3), told.table) == told)
        for made, parts, world in ((Bar, told.parts, WORLD), (NoBar, none.parts, NEAR)):
            mine = type("Mine", (made,), {})
            self.assertIs(shows_bar(world, mine(*parts)), False)
        self.assertEqual(none.run, ((0, 1, 0), (0, 1, 1)))
        for run in ([(False, 1, 0), (0, 1, 1)], [(0, True, 0), (0, 1, 1)], [(0, 1, 0), (0, 1, True)]):
            self.assertTrue(NoBar(run) == none)
            self.assertIs(shows_bar(NEAR, NoBar(run)), False)

    def test_runs_of_no_bar(self):
        three = World([BANK, BANK, BANK], [(0, 1, None), (0, 2, None), (2, 1, None), (1, 2, None), (1, 0, None)], (0, 1, 0), [1])
        for run, so in (([(0, 1, 0), (0, 1, 1)], True), ([(0, 1, 0), (1, 2, 0), (2, 1, 1), (3, 1, 1)], True), ([(0, 1, 0), (0, 1, 2), (0, 1, 1)], False),
                        ([(0, 1, 0), (0, 1, 1), (0, 1, 0)], True), ([(0, 1, 0), (0, 1, 1), (0, 1, 2)], False), ([(0, 1, 0)], False), ([(0, 1, 1)], False)):
            self.assertIs(shows_bar(three, NoBar(run)), so)
        here = World([BANK, BANK], [(0, 1, None)], (0, 1, 0), [0])
        self.assertIs(shows_bar(here, NoBar([(0, 1, 0)])), True)
        self.assertIs(shows_bar(here, NoBar([(0, 1, 0), (2, 1, 0)])), True)
        self.assertIs(shows_bar(here, NoBar([(0, 1, 0), (2, 1, 1)])), False)


class RefusedTest(LaneCase):
    def test_refused(self):
        for value in (*ODDITIES, BANK, str(WORLD), World):
            for told in (shows_needed, shows_bar):
                self.check_part(BadWorld, "world", told, value, needed(WORLD))
        apart = World([BANK, SHORE], [(0, 1, None)], (0, 1, 0), [1])
        for value in (*ODDITIES, needed(WORLD), Needed((), (), ())):
            self.check_raises(Refused, {"why": "never"}, shows_needed, apart, value)
        self.assertIs(shows_bar(apart, Bar((), table(apart))), True)
        self.assertIs(shows_bar(apart, NoBar([(0, 1, 0)])), False)


class AllPapersTest(LaneCase):
    def test_of_one_world(self):
        """What the papers of a world say fits together."""
        source = random.Random(951)
        won = lost = late = 0
        for _ in range(110):
            world = (even_world, ferries, drawn_world)[source.randrange(3)](source)
            answer, bar = soonest(world), least_bar(world)
            self.assertIs(bool(answer), is_safe(world, world.start))
            for lot in all_lots(bar.pieces) if bar else []:
                self.assertIs(bool(soonest(less(world, lot))), lot != bar.pieces)
            if not answer:
                self.assertEqual(bar.pieces, ())
                self.assertEqual([soonest(less(world, [at])).word for at in range(len(world.pieces))], ["never"] * len(world.pieces))
                lost += 1
                continue
            told, by, links = needed(world), delays(world), needed_links(world)
            for at in range(len(world.pieces)):
                less_one = soonest(less(world, [at]))
                self.assertIs(bool(less_one), at not in told.pieces)
                self.assertEqual(by[at], None if not less_one else number(frac(less_one.moment) - frac(answer.moment)))
                late += by[at] not in (None, 0)
                # Whoever is in a goal without it is one who can be there with it.
                if less_one:
                    self.assertIsNotNone(run_to(world, less_one.run[-1]))
            for at in range(len(world.links)):
                self.assertIs(bool(soonest(less(world, [], [at]))), at not in links)
            if not bar:
                self.assertTrue(soonest(less(world, in_question(world))))
            won += 1
        self.assertTrue(won > 50 and lost > 10 and late > 10, (won, lost, late))


if __name__ == "__main__":
    unittest.main()
