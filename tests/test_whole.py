"""What the document promises over the whole program: engines, tables, what is safe, and desks fit together."""

import random
import unittest
from fractions import Fraction

from drawn import drawn_play, drawn_world
from grounds import drawn_level
from helper import LaneCase
from lanecross.compiled import world_of
from lanecross.desk import Desk
from lanecross.engine import Engine
from lanecross.errors import TooMany
from lanecross.films import commands_for, commands_text, played
from lanecross.fronts import is_behind
from lanecross.plays import joined, parted, plain, wins_at
from lanecross.safe import escape, is_alive, is_safe, lasting
from lanecross.soonest import soonest
from lanecross.stories import are_alike, story
from lanecross.tables import soonest_by, table
from lanecross.turned import mirrored, moved, stretched
from machine import Machine, drawn_commands, in_frames, planned_commands
from reference import frac, number
from steps import even_world, ferries
from test_desk import ASKS
from test_engine import tell


def worlds(seed, many):
    """Worlds of all kinds: drawn, of full paces, with ferries, and of levels."""
    source = random.Random(seed)
    while many:
        kind = source.randrange(4)
        if kind < 3:
            world = (drawn_world, even_world, ferries)[kind](source)
        else:
            try:
                world = world_of(drawn_level(source, 2, 2))
            except TooMany:
                continue
        many -= 1
        yield source, world


class WholeTest(LaneCase):
    def test_soonest_runs_are_played(self):
        won = 0
        for source, world in worlds(1401, 150):
            told = soonest(world)
            if not told:
                continue
            commands = commands_for(world, told.run)
            for row in (commands, in_frames(source, commands), in_frames(source, commands)):
                engine = played(world, row)
                self.assertEqual((engine.won, engine.moment, engine.fate, engine.play), (told.moment, told.moment, "plays", plain(world, told.run)))
                self.assertIs(are_alike(world, commands, row), True)
            won += 1
        self.assertGreater(won, 70)

    def test_no_engine_is_sooner(self):
        """Wherever an engine is, this is behind the table; it wins no sooner than told; what is lost stays lost."""
        counts = {"won": 0, "lost": 0, "doomed": 0, "fallen": 0}
        for source, world in worlds(1402, 150):
            told, moment = table(world), soonest_by(world)
            engine, machine, lost, doomed, row = Engine(world), Machine(world), False, False, []
            for _ in range(12):
                row = row or planned_commands(source, machine)
                command = row.pop(0)
                machine.tell(command)
                tell(engine, command)
                station = (engine.moment, engine.place, engine.piece)
                self.assertTrue(is_behind(told[engine.piece], engine.moment, engine.place))
                safe, alive = is_safe(world, station), is_alive(world, station)
                self.assertFalse(lost and safe)
                self.assertFalse(doomed and alive)
                lost, doomed = lost or not safe, doomed or not alive
                if not lost and engine.won is None and engine.fate == "plays":
                    # From here it is won by the commands of a way on.
                    way = joined(world, engine.play, escape(world, station).play)
                    self.assertIsNotNone(played(world, commands_for(world, way)).won)
                if doomed:
                    self.assertNotEqual(engine.fate, "over")
                    self.assertLess(frac(engine.moment), frac(world.end))
                    counts["doomed"] += 1
                if not doomed and engine.fate == "plays":
                    last = joined(world, engine.play, lasting(world, station).play)
                    self.assertEqual(played(world, [*commands_for(world, last), ("on", 1)]).fate, "over")
            if engine.won is not None:
                self.assertGreaterEqual(frac(engine.won), frac(moment))
                counts["won"] += 1
            elif lost:
                counts["lost"] += 1
                for _ in range(5):
                    tell(engine, planned_commands(source, machine)[0])
                    self.assertIsNone(engine.won)
            counts["fallen"] += engine.fate == "fallen"
        self.assertGreater(min(counts.values()), 15, counts)

    def test_plays_and_stories_are_one(self):
        """Parted anywhere and joined, made by commands, in a turned world: one plain play."""
        for source, world in worlds(1403, 80):
            play = drawn_play(source, world, world.start)
            told = story(world, commands_for(world, play))
            self.assertEqual((told.play, told.won), (plain(world, play), wins_at(world, play)))
            middle = number((frac(play[0][0]) + frac(play[-1][0])) / 2)
            self.assertEqual(told.play, joined(world, *parted(world, play, middle)))
            commands = commands_for(world, play)
            mirror = [(word, number(-frac(value)) if word == "run" else value) for word, value in commands]
            other = story(mirrored(world), mirror)
            self.assertEqual((other.won, other.fate, other.play), (told.won, told.fate, tuple((t, number(-frac(x)), p) for t, x, p in told.play)))
            other = story(moved(world, (7, 3), -2), commands)
            self.assertEqual(other.play, tuple((number(frac(t) + Fraction(7, 3)), number(frac(x) - 2), p) for t, x, p in told.play))
            longer = [(word, number(frac(value) * Fraction(3, 2)) if word == "on" else value) for word, value in commands]
            other = story(stretched(world, (3, 2)), longer)
            self.assertEqual(other.play, tuple((number(frac(t) * Fraction(3, 2)), number(frac(x) * Fraction(3, 2)), p) for t, x, p in told.play))

    def test_desks_that_are_told_a_log(self):
        for source, world in worlds(1404, 50):
            commands, machine = drawn_commands(source, world)
            desk, other = Desk(world), Desk(world)
            for command in commands:
                desk.told(commands_text([command]))
                if source.randint(0, 3) == 0:
                    desk.told("still")
                if source.randint(0, 3) == 0:
                    desk.undo()
                    desk.redo()
            answers = [other.told(line) for line in desk.log]
            self.assertTrue(other == desk)
            lines = [*ASKS, *["front %d %d" % (source.randrange(len(world.pieces)), at) for at in range(-2, 6)], *["scene %d" % at for at in range(-1, 7)]]
            for line in lines:
                self.assertEqual(other.told(line), desk.told(line))
                self.assertEqual(desk.twin().told(line), desk.told(line))
            self.assertEqual(answers[-1:], [machine.fate] if commands else [])
            self.assertEqual(other.told("play"), " / ".join("{} {} {}".format(frac(t), frac(x), p) for t, x, p in machine.play()))


if __name__ == "__main__":
    unittest.main()
