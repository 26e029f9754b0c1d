import random
import unittest

from drawn import as_lists, drawn_world
from helper import ODDITIES, LaneCase
from lanecross.errors import BadNumber, BadPlay, BadWorld, Refused
from lanecross.papers import Denial, Paper
from lanecross.pieces import Piece
from lanecross.stories import Story, are_alike, shows_story, story
from lanecross.worlds import World
from machine import Machine, drawn_command, drawn_commands, in_frames
from test_films import NO_COMMANDS

BANK, BOAT, FAR = Piece(0, 10, (0, 0), (3, 3)), Piece(0, 10, (1, 6), (2, 7)), Piece(0, 12, (6, 6), (8, 8))
WORLD = World([BANK, BOAT, FAR], [(0, 1, None), (1, 2, None), (1, 0, None)], (0, 0, 0), [2])
GAME = [("run", 1), ("on", 2), ("hop", 0), ("on", 2), ("run", (1, 2)), ("on", 4), ("hop", 1)]


def behind(world, commands):
    """What became of commands by the second way: play, won, fate; or the line and why it is refused."""
    machine = Machine(world)
    for at, command in enumerate(commands):
        why = machine.tell(command)
        if why is not None:
            return at, why
    return machine.play(), machine.won(), machine.fate


def near(source, world, commands):
    """Rows of commands that are near another one: longer, shorter, with another pace or time, or as before."""
    at = source.randrange(len(commands) + 1)
    machine = Machine(world)
    for command in commands:
        machine.tell(command)
    yield [*commands, drawn_command(source, machine)]
    yield commands[:-1]
    yield [*commands[:at], ("run", source.choice((0, 1, (1, 2)))), *commands[at:]]
    yield [*commands[:at], ("on", source.choice((0, (1, 2)))), *commands[at:]]
    yield [*commands[:at], *commands[at + 1:]]
    yield [*commands, ("on", 99)]
    yield [*commands, ("on", 0)]
    yield [("run", (1, 7)), ("run", 0), *commands]
    if machine.fate == "plays":
        yield in_frames(source, commands)


class StoryTest(LaneCase):
    def test_parts(self):
        self.check_paper_class(Story, "story", ("play", "won", "fate"), Paper)

    def test_drawn_commands(self):
        source = random.Random(1201)
        won = hops = 0
        fates = {"plays": 0, "fallen": 0, "over": 0}
        for _ in range(250):
            world = drawn_world(source, 4)
            commands, machine = drawn_commands(source, world, 12)
            told = story(world, as_lists(commands))
            self.assertIsInstance(told, Story)
            self.assertEqual((told.play, told.won, told.fate), behind(world, commands))
            self.assertTrue(told == story(world, commands))
            fates[told.fate] += 1
            won, hops = won + (told.won is not None), hops + (len({station[2] for station in told.play}) > 1)
        self.assertTrue(min(fates.values()) > 5 and won > 50 and hops > 50, (fates, won, hops))

    def test_by_hand(self):
        self.assertTrue(story(commands=[], world=WORLD) == Story([(0, 0, 0)], None, "plays"))
        self.assertTrue(story(WORLD, [*GAME, ("on", 99)]) == Story([(0, 0, 0), (2, 2, 1), (4, 4, 1), (8, 6, 2), (12, 8, 2)], 8, "over"))


def as_tuples(value):
    return tuple(as_tuples(part) for part in value) if isinstance(value, (list, tuple)) else value


class ShowsTest(LaneCase):
    def test_told_and_spoilt(self):
        source = random.Random(1211)
        right = wrong = 0
        for _ in range(150):
            world = drawn_world(source, 4)
            commands, _ = drawn_commands(source, world)
            play, won, fate = behind(world, commands)
            self.assertIs(shows_story(world, commands, Story(as_lists(play), as_lists(won), fate)), True)
            spoilt = [(other, won, fate) for other in (play[:-1], play[1:], play[::-1], (*play, play[-1]), (play,), play[0], (), None, dict(enumerate(play)))]
            spoilt += [(play, other, fate) for other in (None, 0, 1, play[-1][0], "0", (), [won], False, True, float("nan"))]
            spoilt += [(play, won, other) for other in ("plays", "fallen", "over", "Plays", "", None, True, 0, ("plays",), ["p"], b"plays")]
            if len(play) > 1:
                spoilt.append((play[:1] + play[:1] + play[1:], won, fate))
            for value in spoilt:
                so = repr(as_tuples(value)) == repr((play, won, fate))
                self.assertIs(shows_story(world, as_lists(commands), Story(*value)), so)
                right, wrong = right + so, wrong + (not so)
            for other in near(source, world, commands):
                told = behind(world, other)
                if len(told) == 3:
                    self.assertIs(shows_story(world, other, Story(play, won, fate)), told == (play, won, fate))
        self.assertTrue(right > 100 and wrong > 3000, (right, wrong))

    def test_values_of_all_kinds(self):
        told = story(WORLD, GAME)
        for value in (*ODDITIES, told.parts, Story, Paper("story", *told.parts), Denial("story", *told.parts), type("Mine", (Story,), {})(*told.parts), Story(told, None, "plays"),
                      Story(told.play, told, told.fate), Story(*told.parts[::-1])):
            self.assertIs(shows_story(WORLD, GAME, value), False)
        self.assertIs(shows_story(value=told, commands=GAME, world=WORLD), True)

    def test_no_truth_for_a_number(self):
        world = World([BANK, BANK], [(0, 1, None)], (0, 1, 0), [1])
        told = story(world, [("on", 1), ("hop", 0)])
        self.assertEqual(told.parts, (((0, 1, 0), (1, 1, 1)), 1, "plays"))
        self.assertIs(shows_story(world, [("on", 1), ("hop", 0)], told), True)
        for value in (Story(told.play, True, "plays"), Story([(False, 1, 0), (1, 1, 1)], 1, "plays"), Story([(0, True, 0), (1, 1, 1)], 1, "plays"),
                      Story([(0, 1, False), (1, 1, 1)], 1, "plays"), Story([(0, 1, 0), (1, 1, True)], 1, "plays"), Story([(0, 1, 0), (1, 1.0, 1)], 1, "plays"),
                      Story(told.play, 1.0, "plays")):
            self.assertTrue(value == told)
            self.assertIs(shows_story(world, [("on", 1), ("hop", 0)], value), False)
        none = story(world, [])
        self.assertIs(shows_story(world, [], none), True)
        for won in (False, 0, (), ""):
            self.assertIs(shows_story(world, [], Story(none.play, won, "plays")), False)


class AlikeTest(LaneCase):
    def test_drawn_rows(self):
        source = random.Random(1221)
        alike = unlike = 0
        for _ in range(150):
            world = drawn_world(source, 4)
            commands, _ = drawn_commands(source, world)
            for other in near(source, world, commands):
                told = behind(world, other)
                if len(told) == 2:
                    continue
                so = told == behind(world, commands)
                self.assertIs(are_alike(world, commands, other), so)
                self.assertIs(are_alike(world, as_lists(other), tuple(commands)), so)
                alike, unlike = alike + so, unlike + (not so)
        self.assertTrue(alike > 300 and unlike > 150, (alike, unlike))

    def test_by_hand(self):
        same = World([BANK, BANK, BANK], [(0, 1, None), (0, 2, None), (0, 1, BANK), (1, 0, None)], (0, 1, 0), [])
        for one, other, so in (([], [], True), ([("hop", 0)], [("hop", 2)], True), ([("hop", 0)], [("hop", 1)], False), ([("run", 1)], [], True),
                               ([("hop", 0), ("hop", 3)], [], False), ([("on", 99)], [("on", 10)], False), ([("on", 99)], [("on", 11)], True),
                               ([("run", 1), ("on", 2)], [("run", (1, 2)), ("on", 2)], False), ([("on", 1), ("on", 1)], [("on", 2)], True)):
            self.assertIs(are_alike(one=one, other=other, world=same), so)


class RefusedTest(LaneCase):
    def test_worlds(self):
        for value in (*ODDITIES, BANK, str(WORLD), World):
            self.check_part(BadWorld, "world", story, value, None)
            self.check_part(BadWorld, "world", shows_story, value, None, None)
            self.check_part(BadWorld, "world", are_alike, value, None, None)

    def test_rows(self):
        for value in (*ODDITIES, ("run", 1), "on 0", {0: ("on", 0)}, *[[value] for value in NO_COMMANDS], *[[*GAME, value] for value in NO_COMMANDS]):
            if value not in ((), []):
                self.check_part(BadPlay, "commands", story, WORLD, value)
                self.check_part(BadPlay, "commands", shows_story, WORLD, value, story(WORLD, GAME))
                self.check_part(BadPlay, "one", are_alike, WORLD, value, None)
                self.check_part(BadPlay, "one", are_alike, WORLD, value, GAME)
                self.check_part(BadPlay, "other", are_alike, WORLD, GAME, value)
                # What is no row of commands comes before a command that is refused.
                self.check_part(BadPlay, "other", are_alike, WORLD, [("hop", 1)], value)

    def test_commands_that_are_refused(self):
        none, far = {"why": "hop"}, {"part": "number"}
        for commands, line, error, fields in (([*GAME, ("hop", 1)], 7, Refused, none), ([("hop", 3)], 0, BadNumber, far), ([("on", 11), ("run", 1)], 1, Refused, {"why": "fallen"}),
                                              ([*GAME, ("on", 9), ("on", 9), ("run", 1), ("hop", 7)], 9, Refused, {"why": "over"})):
            self.check_line(line, error, fields, story, WORLD, commands)
            self.check_line(line, error, fields, shows_story, WORLD, commands, None)
            self.check_line(line, error, fields, shows_story, WORLD, commands, story(WORLD, GAME))
            self.check_line(line, error, fields, are_alike, WORLD, commands, GAME)
            self.check_line(line, error, fields, are_alike, WORLD, GAME, commands)
            # Of the first row first, wherever in it.
            self.check_line(line, error, fields, are_alike, WORLD, commands, [("on", 0), ("on", 0), ("hop", 99)])
            self.check_line(2, BadNumber, far, are_alike, WORLD, [("on", 0), ("on", 0), ("hop", 99)], commands)

    def test_drawn_commands(self):
        source = random.Random(1231)
        refused = 0
        for _ in range(100):
            world = drawn_world(source, 4)
            machine, commands = Machine(world), []
            for _ in range(12):
                commands.append(drawn_command(source, machine))
                why = machine.tell(commands[-1])
                if why is not None:
                    self.check_line(len(commands) - 1, Refused, {"why": why}, story, world, commands)
                    self.check_line(len(commands) - 1, Refused, {"why": why}, shows_story, world, [*commands, ("hop", 999)], None)
                    self.check_line(len(commands) - 1, Refused, {"why": why}, are_alike, world, commands, [("hop", 999)])
                    self.check_line(0, BadNumber, {"part": "number"}, are_alike, world, [("hop", 999)], commands)
                    refused += 1
                    break
        self.assertGreater(refused, 30)


if __name__ == "__main__":
    unittest.main()
