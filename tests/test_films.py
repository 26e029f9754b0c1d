import random
import unittest
from fractions import Fraction

from drawn import as_lists, drawn_play, drawn_world, place_at
from grammar import commands_item
from helper import NO_NUMBERS, ODDITIES, LaneCase
from lanecross.engine import Engine
from lanecross.errors import BadNumber, BadPlay, BadWorld, Misfit, Refused, TooMany
from lanecross.films import commands_for, commands_of, commands_text, film, is_command, played
from lanecross.pieces import Piece
from lanecross.plays import hops_of, plain, where_at
from lanecross.worlds import World
from machine import Machine, drawn_command, drawn_commands, standing
from reference import frac, number

BANK, BOAT, FAR = Piece(0, 10, (0, 0), (3, 3)), Piece(0, 10, (1, 6), (2, 7)), Piece(0, 12, (6, 6), (8, 8))
WORLD = World([BANK, BOAT, FAR], [(0, 1, None), (1, 2, None), (1, 0, None)], (0, 0, 0), [2])
PLAY = ((0, 0, 0), (2, 2, 1), (4, 4, 1), (8, 6, 2), (9, (13, 2), 2))
SAME = World([BANK, BANK, BANK], [(0, 1, None), (1, 0, None), (1, 2, BOAT), (1, 2, None)], (0, 0, 0), [2])
NO_COMMANDS = (
    *ODDITIES, "run", ("run",), ("run", 1, 1), ["on", 0, None], ("Run", 1), ("stop", 1), ("", 0), (b"run", 1), (1, "run"), (None, 0), (["run"], 1), ("run", 2), ("run", -2),
    ("run", (3, 2)), ("run", (-3, 2)), ("run", "1"), ("on", -1), ("on", (-1, 2)), ("on", "0"), ("hop", -1), ("hop", (1, 2)), ("hop", [0, 1]), ("hop", "0"), ("hop", True),
    ("on", False), ("run", True), ("on", 0.0), ("hop", 1.0), {"on": 0}, {"on", 0}, "on 0", ("run", (2, 4)), ("on", (4, 2)), ("on ", 1), (("on", 1),), [["on", 1]],
    ("on", None), (True, 1), ("hop", None), ("o", "n"), "on")
COMMANDS = (
    ("run", 0), ("run", 1), ("run", -1), ["run", (1, 2)], ("run", [-1, 2]), ("run", (10 ** 30, 10 ** 30 + 1)), ("on", 0), ("on", 5), ["on", [7, 2]], ("on", 10 ** 60),
    ("on", (1, 10 ** 60)), ("hop", 0), ["hop", 99], ("hop", 10 ** 60))


class CommandsTest(LaneCase):
    def test_is_command(self):
        for value in COMMANDS:
            self.assertIs(is_command(value), True)
            self.assertIs(is_command(value=tuple(value)), True)
            self.assertIs(is_command(list(value)), True)
        for value in NO_COMMANDS:
            self.assertIs(is_command(value), False, value)
        for value in NO_NUMBERS:
            if value not in ((1, 2), [1, 2]):
                for word in ("run", "on", "hop"):
                    self.assertIs(is_command((word, value)), False)

    def test_rows_of_commands(self):
        for value in (*ODDITIES, ("run", 1), ["on", 0], "on 0", {0: ("on", 0)}, {("on", 0)}, COMMANDS[0], *[[value] for value in NO_COMMANDS],
                      *[[*COMMANDS[:2], value] for value in NO_COMMANDS], iter([]), range(0)):
            if value not in ((), []):
                self.check_part(BadPlay, "commands", played, WORLD, value)
                self.check_part(BadPlay, "commands", commands_text, value)
        for value in ((), []):
            self.assertEqual((commands_text(value), standing(played(WORLD, value))), ("-", standing(Engine(WORLD))))


class TextsTest(LaneCase):
    def test_texts(self):
        self.assertEqual(commands_text(commands=COMMANDS), " / ".join(
            ["run 0", "run 1", "run -1", "run 1/2", "run -1/2", "run 1%s/1%s1" % ("0" * 30, "0" * 29), "on 0", "on 5", "on 7/2", "on 1" + "0" * 60, "on 1/1" + "0" * 60,
             "hop 0", "hop 99", "hop 1" + "0" * 60]))
        self.assertEqual(commands_of(text="run 1 / on 7/2 / hop 3"), (("run", 1), ("on", (7, 2)), ("hop", 3)))
        self.assertEqual(commands_of("-"), ())
        source = random.Random(1001)
        for many in (0, 1, 2, 3, 8):
            for _ in range(20):
                row = [as_lists(source.choice(COMMANDS[:9])) for _ in range(many)]
                told = commands_of(commands_text(row))
                self.assertEqual(as_lists(told), as_lists(row))
                self.assertTrue(isinstance(told, tuple) and all(isinstance(command, tuple) for command in told))
                self.assertEqual(commands_text(told), commands_text(row))

    def test_bent(self):
        for text in ("-", "on 0", "run -1/2 / hop 3", "run 1 / on 7/2 / hop 0 / on 0", "hop 12 / run 0 / on 1/3 / run 1 / on 5 / hop 0 / hop 1 / on 2"):
            self.check_bent(text, commands_of, commands_item, commands_text)

    def test_items(self):
        for text, item in (("", 0), (" ", 0), ("- ", 1), ("- -", 1), ("- on 1", 1), ("on", 1), ("on ", 1), ("on 1 /", 3), ("on 1 / ", 3), ("on 1 / -", 3), ("on 1 on 2", 2),
                           ("on -1", 1), ("run 2", 1), ("run 3/2", 1), ("run -3/2", 1), ("hop -1", 1), ("hop 1/2", 1), ("on -1/2", 1), ("on 1 / / on 2", 3), ("on 1 2", 2),
                           ("/ on 1", 0), ("stop 1", 0), ("on 1 / stop", 3), ("on 1 / run", 4), ("RUN 1", 0), ("on  1", 1), ("hop 1" + "0" * 60, 1), ("run 1/2 on 3", 2)):
            self.check_text(item, commands_of, text)
        for value in (*ODDITIES, 7, ["on 0"], b"-", ("-",), (("on", 0),)):
            if not isinstance(value, str):
                self.check_text(0, commands_of, value)
        text = " / ".join("on %d" % (at % 1000) for at in range(2200))
        self.assertEqual(commands_text(commands_of(text)), text)


class PlayedTest(LaneCase):
    def test_drawn_commands(self):
        source = random.Random(1011)
        refused = {"hop": 0, "fallen": 0, "over": 0, "number": 0}
        done = 0
        for _ in range(250):
            world = drawn_world(source, 4)
            machine, commands = Machine(world), []
            for _ in range(12):
                commands.append(drawn_command(source, machine) if source.randint(0, 20) else ("hop", len(world.links) + source.randint(0, 2)))
                if commands[-1][0] == "hop" and commands[-1][1] >= len(world.links):
                    self.check_line(len(commands) - 1, BadNumber, {"part": "number"}, played, world, commands)
                    refused["number"] += 1
                    break
                why = machine.tell(commands[-1])
                if why is not None:
                    for row in (commands, [*commands, ("run", 1)], as_lists(commands), [*commands, commands[-1]]):
                        self.check_line(len(commands) - 1, Refused, {"why": why}, played, world, row)
                    refused[why] += 1
                    break
            else:
                engine = played(world, as_lists(commands))
                self.assertIsInstance(engine, Engine)
                self.assertEqual(standing(engine), machine.stands())
                done += 1
        self.assertGreater(min(refused.values()), 5, refused)
        self.assertGreater(done, 50)

    def test_by_hand(self):
        self.assertEqual(standing(played(commands=[("run", 1), ("on", 9)], world=WORLD)), (3, 3, 0, 1, "fallen", None, ((0, 0, 0), (3, 3, 0))))
        # Behind its end time is told still, but goes on no more.
        self.assertEqual(played(WORLD, [("on", 99), ("on", 1), ("on", 0)]).moment, 10)
        for commands, line, error, fields in (([("on", 99), ("run", 1)], 1, Refused, {"why": "fallen"}), ([("hop", 3)], 0, BadNumber, {"part": "number"}),
                                              ([("on", 99), ("hop", 0)], 1, Refused, {"why": "fallen"}), ([("on", 99), ("hop", 3)], 1, BadNumber, {"part": "number"}),
                                              ([("on", 1), ("on", 1), ("hop", 2), ("hop", 1)], 2, Refused, {"why": "hop"})):
            self.check_line(line, error, fields, played, WORLD, commands)
        # All of the row is asked for its form ahead.
        self.check_part(BadPlay, "commands", played, WORLD, [("hop", 3), ("hop", -1)])
        one, other = played(WORLD, [("on", 1)]), played(WORLD, [("on", 1)])
        one.on(1)
        self.assertEqual((one.moment, other.moment), (2, 1))

    def test_refused(self):
        for value in (*ODDITIES, BANK, str(WORLD), World):
            self.check_part(BadWorld, "world", played, value, None)
            self.check_part(BadWorld, "world", commands_for, value, None)
            self.check_part(BadWorld, "world", film, value, None, None)


class CommandsForTest(LaneCase):
    def check_play(self, world, play):
        told = commands_for(world, play)
        self.assertIsInstance(told, tuple)
        self.assertTrue(all(isinstance(command, tuple) and is_command(command) for command in told))
        self.assertEqual((told, told), (commands_for(World.read(str(world)), as_lists(play)), commands_for(world, tuple(play))))
        self.assertLessEqual(len(told), 3 * len(play))
        engine = played(world, told)
        self.assertEqual((engine.play, engine.fate), (plain(world, play), "plays"))
        legs = [(frac(v) - frac(u), frac(y) - frac(x)) for (u, x, _), (v, y, _) in zip(play, play[1:])]
        moments = [frac(station[0]) for station in play]
        for word, value in told:
            if word == "run":
                self.assertIn(frac(value), [way / time for time, way in legs if time > 0])
            elif word == "on":
                self.assertIn(frac(value), [later - one for one in moments for later in moments])
            else:
                self.assertIn(value, range(len(world.links)))

    def test_drawn_plays(self):
        source = random.Random(1021)
        hops = longest = 0
        for _ in range(150):
            world = drawn_world(source, 4)
            play = drawn_play(source, world, world.start, 10)
            self.check_play(world, play)
            hops, longest = hops + len(hops_of(world, play)), max(longest, len(play))
            self.check_play(world, play[:1])
        self.assertTrue(hops > 100 and longest > 8, (hops, longest))

    def test_plays_of_engines(self):
        source = random.Random(1022)
        for _ in range(80):
            world = drawn_world(source, 4)
            _, machine = drawn_commands(source, world)
            self.check_play(world, machine.play())

    def test_by_hand(self):
        for play in ([(0, 0, 0)], [(0, 0, 0), (9, 0, 0)], [(0, 0, 0), (2, 2, 0), (4, 0, 0)], [(0, 0, 0), (1, 1, 1), (1, 1, 0), (1, 1, 1), (2, 1, 1)],
                     [(0, 0, 0), (0, 0, 1), (0, 0, 0)], [(0, 0, 0), (1, 1, 0), (2, 2, 0), (3, 3, 0), (3, 3, 1)], [(0, 0, 0), ((1, 3), (1, 7), 0), (2, 0, 1)]):
            self.check_play(SAME, play)
        self.check_play(WORLD, list(PLAY))
        self.assertEqual(commands_for(play=[[0, 0, 0]], world=SAME), ())

    def test_refused(self):
        for value in (*ODDITIES, [(0, 0, 1)], [(0, 0, 0), (1, 1, 1)], [(0, 0, 0), (0, 0, 0)], [*PLAY, None], PLAY[0], [(0, False, 0)]):
            self.check_part(BadPlay, "play", commands_for, WORLD, value)
        for value in (PLAY[1:], [(0, 1, 0)], [(1, 0, 0), (2, 0, 0)]):
            self.check_part(Misfit, "start", commands_for, WORLD, value)


class FilmTest(LaneCase):
    def test_drawn_plays(self):
        source = random.Random(1031)
        met = missed = frames = 0
        for _ in range(120):
            world = drawn_world(source, 4)
            play = drawn_play(source, world, world.start)
            first, last = frac(play[0][0]), frac(play[-1][0])
            time = last - first
            for step in (time / 4, time / 7, time, time * 2, Fraction(1, 3), Fraction(5, 7), time / 4 + Fraction(1, 999)):
                if step == 0:
                    continue
                told, wanted, moment = film(world, play, number(step)), [], first
                while moment <= last:
                    place, _ = place_at(play, moment)
                    wanted.append((number(moment), number(place), where_at(world, play, number(moment))[2]))
                    moment += step
                self.assertEqual(told, tuple(wanted))
                self.assertEqual(film(world, as_lists(play), as_lists(number(step))), told)
                met, missed, frames = met + (told[-1][0] == play[-1][0]), missed + (told[-1][0] != play[-1][0]), frames + len(told)
        self.assertTrue(met > 100 and missed > 100 and frames > 2000, (met, missed, frames))

    def test_by_hand(self):
        self.assertEqual(film(step=(9, 2), play=PLAY, world=WORLD), ((0, 0, 0), ((9, 2), (17, 4), 1), (9, (13, 2), 2)))
        self.assertEqual(film(WORLD, PLAY, 10), (PLAY[0],))
        self.assertEqual(film(WORLD, PLAY, 9), (PLAY[0], PLAY[-1]))
        self.assertEqual(film(WORLD, PLAY[1:2], (1, 10 ** 60)), (PLAY[1],))
        # Of hops at one moment the last one tells.
        self.assertEqual(film(SAME, [(0, 0, 0), (1, 1, 1), (1, 1, 0), (1, 1, 1), (2, 1, 1)], 1), ((0, 0, 0), (1, 1, 1), (2, 1, 1)))

    def test_many(self):
        long = [(0, 0, 0), (9, 0, 0)]
        self.assertEqual(len(film(WORLD, long, (1, 111))), 1000)
        self.assertEqual(len(film(WORLD, long, (9001, 1000000))), 1000)
        for step in ((9, 1000), (8999, 1000000), (1, 10 ** 60)):
            self.check_raises(TooMany, {"what": "frames", "most": 1000}, film, WORLD, long, step)

    def test_refused(self):
        for value in (*ODDITIES, [(0, 0, 1)], [(0, 0, 0), (1, 1, 1)], [*PLAY, None], PLAY[0]):
            self.check_part(BadPlay, "play", film, WORLD, value, None)
        for value in (*NO_NUMBERS, 0, -1, (-1, 2), -10 ** 60):
            if value not in ((1, 2), [1, 2]):
                self.check_part(BadNumber, "step", film, WORLD, PLAY, value)


if __name__ == "__main__":
    unittest.main()
