import random
import unittest
from fractions import Fraction

from drawn import as_lists, drawn_world, is_right_play
from helper import NO_NUMBERS, ODDITIES, LaneCase
from lanecross.engine import Engine
from lanecross.errors import BadNumber, BadWorld, Refused
from lanecross.pieces import Piece
from lanecross.plays import plain, wins_at
from lanecross.worlds import World
from machine import Machine, drawn_commands, in_frames, planned_commands, standing
from reference import frac, number

BANK, BOAT, FAR = Piece(0, 10, (0, 0), (3, 3)), Piece(0, 10, (1, 6), (2, 7)), Piece(0, 12, (6, 6), (8, 8))
WORLD = World([BANK, BOAT, FAR], [(0, 1, None), (1, 2, None), (1, 0, None)], (0, 0, 0), [2])


def tell(engine, command):
    """A command, told as the interface has it; why it is refused, or None."""
    word, value = command
    try:
        told = {"run": engine.run, "hop": engine.hop, "on": engine.on}[word](value)
    except Refused as error:
        return error.why
    assert told is None
    return None


def behind(world, commands):
    engine = Engine(world)
    for command in commands:
        assert tell(engine, command) is None, command
    return engine


class EngineTest(LaneCase):
    def test_at_the_start(self):
        source = random.Random(901)
        for _ in range(40):
            world = drawn_world(source, 4)
            engine = Engine(world)
            self.assertIs(engine.world, world)
            self.assertEqual(standing(engine), (*world.start, 0, "plays", world.start[0] if world.start[2] in world.goals else None, (world.start,)))
        for name in ("__init__", "run", "hop", "on"):
            self.assertIn(name, vars(Engine))
        self.assertEqual(Engine(world=WORLD).play, ((0, 0, 0),))

    def test_command_by_command(self):
        source = random.Random(902)
        fates, won, refused, hops, moved = {"plays": 0, "fallen": 0, "over": 0}, 0, {"fallen": 0, "over": 0, "hop": 0}, 0, 0
        for _ in range(400):
            world = drawn_world(source, 4)
            engine, machine = Engine(world), Machine(world)
            row = []
            for _ in range(20):
                row = row or planned_commands(source, machine)
                command, before = row.pop(0), standing(engine)
                why = machine.tell(command)
                self.assertEqual(tell(engine, as_lists(command) if source.randint(0, 1) else command), why)
                self.assertEqual(standing(engine), machine.stands())
                if why is not None:
                    refused[why] += 1
                    self.assertEqual(standing(engine), before)
                elif command[0] == "hop":
                    hops += 1
                moved += engine.moment != before[0]
            self.assertTrue(is_right_play(world, engine.play))
            self.assertEqual(engine.play, plain(world, engine.play))
            self.assertEqual(engine.won, wins_at(world, engine.play))
            self.assertEqual(repr(standing(engine)), repr(machine.stands()))
            fates[engine.fate] += 1
            won += engine.won is not None
        self.assertGreater(min(fates.values()), 15, fates)
        self.assertGreater(min(refused.values()), 30, refused)
        self.assertTrue(won > 100 and hops > 250 and moved > 500, (won, hops, moved))

    def test_in_frames(self):
        source = random.Random(903)
        longer = 0
        for _ in range(150):
            world = drawn_world(source, 4)
            commands, machine = drawn_commands(source, world)
            for _ in range(3):
                cut = in_frames(source, commands)
                if machine.fate != "plays":
                    # Behind its end neither a pace nor a link can be told.
                    cut = [command for at, command in enumerate(cut) if behind_end(world, cut[:at]) is None or command[0] == "on"]
                engine = behind(world, cut)
                self.assertEqual(standing(engine), machine.stands())
                longer += len(cut) > len(commands)
        self.assertGreater(longer, 250)

    def test_the_very_last_moment(self):
        """Just then it plays still, and may run, hop and wait; any more time, and it is at its end."""
        source = random.Random(904)
        fallen = over = hopped = 0
        for _ in range(600):
            world = drawn_world(source, 4)
            commands, machine = drawn_commands(source, world, 5)
            if machine.fate != "plays":
                continue
            room = machine.room()
            first = [*commands, ("on", number(room))]
            machine.on(room)
            engine = behind(world, first)
            self.assertEqual(standing(engine), machine.stands())
            self.assertEqual((engine.fate, tell(engine, ("on", 0)), tell(engine, ("run", engine.pace)), engine.fate), ("plays", None, None, "plays"))
            for by in (Fraction(1, 10 ** 30), 1, 10 ** 30):
                ended = behind(world, [*first, ("on", number(Fraction(by)))])
                self.assertEqual(standing(ended)[:4], standing(engine)[:4])
                self.assertEqual((ended.fate, ended.play), ("over" if engine.moment == world.end else "fallen", engine.play))
                for command in (("run", 0), ("run", ended.pace), *[("hop", link) for link in range(len(world.links))]):
                    before = standing(ended)
                    self.assertEqual(tell(ended, command), ended.fate)
                    self.assertEqual((tell(ended, ("on", 5)), standing(ended)), (None, before))
            at_once = behind(world, [*commands, ("on", number(room + 7))])
            self.assertEqual(standing(at_once), standing(ended))
            fallen, over = fallen + (ended.fate == "fallen"), over + (ended.fate == "over")
            for link in machine.open_links():
                hopper = behind(world, [*first, ("hop", link)])
                self.assertEqual((hopper.fate, hopper.moment, hopper.piece), ("plays", engine.moment, world.links[link][1]))
                hopped += 1
        self.assertTrue(fallen > 200 and over > 30 and hopped > 25, (fallen, over, hopped))

    def test_by_hand(self):
        swift = Piece(0, 4, (0, 12), (1, 13))
        point = Piece(0, 4, (0, 2), (0, 2))
        for piece, place, pace, moment, stands in (
                (swift, 1, 1, (1, 2), (3, 2)), (swift, 1, -1, (1, 4), (3, 4)), (swift, 0, 1, 0, 0), (swift, (1, 2), 0, (1, 6), (1, 2)), (point, 0, (1, 2), 4, 2),
                (point, 0, 0, 0, 0), (point, 0, 1, 0, 0), (Piece(0, 4, (0, 0), (2, -2 + 2)), 1, 0, 2, 1), (Piece(0, 4, (0, 0), (2, 0)), 1, (-1, 2), 2, 0),
                (Piece(-1, 5, (0, 6), (6, 12)), 6, 1, 5, 11), (Piece(0, 3, (0, 1), (9, 9)), 0, (1, 3), 3, 1)):
            world = World([piece, Piece(0, 99, (90, 90), (90, 90))], [], (0, place, 0), [])
            engine = behind(world, [("run", pace), ("on", moment)])
            self.assertEqual((engine.moment, engine.place, engine.fate), (moment, stands, "plays"))
            self.assertEqual((tell(engine, ("on", (1, 999))), engine.moment, engine.place, engine.fate), (None, moment, stands, "fallen"))
            self.assertEqual(tell(engine, ("run", 0)), "fallen")

    def test_over(self):
        for end, fate in ((9, "fallen"), (10, "over")):
            world = World([BANK, Piece(0, end, (0, 0), (2, 2)), Piece(0, end if end == 9 else 10, (9, 9), (9, 9))], [(0, 1, None)], (0, 1, 0), [])
            engine = behind(world, [("hop", 0), ("on", 20)])
            self.assertEqual((engine.moment, engine.fate), (end, fate))
        # Who falls off an edge just at the end of the world is at the end, too.
        edge = World([Piece(0, 4, (0, 0), (4, 4))], [], (0, 0, 0), [])
        engine = behind(edge, [("run", 1), ("on", 5)])
        self.assertEqual(standing(engine), (4, 4, 0, 1, "over", None, ((0, 0, 0), (4, 4, 0))))
        late = World([Piece(0, 4, (0, 0), (4, 4))], [], (4, 0, 0), [0])
        engine = behind(late, [("on", 0), ("run", 1), ("on", 1)])
        self.assertEqual(standing(engine), (4, 0, 0, 1, "over", 4, ((4, 0, 0),)))

    def test_won(self):
        both = World([BANK, BANK, BANK], [(0, 1, None), (1, 2, None), (2, 0, None)], (1, 1, 0), [1, 2])
        engine = Engine(both)
        for command, won in ((("on", 2), None), (("hop", 0), 3), (("on", 1), 3), (("hop", 1), 3), (("hop", 2), 3), (("on", 99), 3)):
            tell(engine, command)
            self.assertEqual(engine.won, won)
        self.assertEqual(Engine(World([BANK], [], (2, 1, 0), [0])).won, 2)
        self.assertIs(Engine(World([BANK], [], (0, 1, 0), [0])).won, 0)

    def test_plain_plays(self):
        same = World([BANK, BANK], [(0, 1, None), (1, 0, None)], (0, 0, 0), [])
        for commands, play in (
                ([("hop", 0), ("hop", 1)], ((0, 0, 0), (0, 0, 1), (0, 0, 0))), ([("on", 1), ("on", 1)], ((0, 0, 0), (2, 0, 0))),
                ([("on", 1), ("hop", 0), ("on", 1)], ((0, 0, 0), (1, 0, 1), (2, 0, 1))), ([("on", 1), ("run", 1), ("on", 1)], ((0, 0, 0), (1, 0, 0), (2, 1, 0))),
                ([("run", 1), ("on", 1), ("hop", 0), ("hop", 1), ("on", 1)], ((0, 0, 0), (1, 1, 1), (1, 1, 0), (2, 2, 0))),
                ([("run", 1), ("run", 0), ("on", 0)], ((0, 0, 0),)), ([("run", 1), ("on", 9)], ((0, 0, 0), (3, 3, 0)))):
            self.assertEqual(behind(same, commands).play, play)

    def test_each_has_its_own(self):
        one, other = Engine(WORLD), Engine(WORLD)
        play = one.play
        one.run([1, 2])
        one.on([3, 2])
        self.assertEqual(standing(one), ((3, 2), (3, 4), 0, (1, 2), "plays", None, ((0, 0, 0), ((3, 2), (3, 4), 0))))
        self.assertEqual((standing(other), play), ((0, 0, 0, 0, "plays", None, ((0, 0, 0),)), ((0, 0, 0),)))
        self.assertFalse(one == other)
        self.assertFalse(one == WORLD)


def behind_end(world, commands):
    """The fate of the commands, if it is no more plays."""
    machine = Machine(world)
    for command in commands:
        machine.tell(command)
    return None if machine.fate == "plays" else machine.fate


class RefusedTest(LaneCase):
    def engines(self):
        """One that plays, one that has fallen, one at the end of the world; each commands that lead there."""
        return [(), (("run", -1), ("on", 1)), (("run", 1), ("on", 2), ("hop", 0), ("run", (1, 2)), ("on", 8), ("hop", 1), ("on", 99))]

    def check_stays(self, commands, error, part, word, value):
        engine = behind(WORLD, commands)
        before = standing(engine)
        self.check_part(error, part, getattr(engine, word), value)
        self.assertEqual(standing(engine), before)

    def test_worlds(self):
        for value in (*ODDITIES, BANK, str(WORLD), World):
            self.check_part(BadWorld, "world", Engine, value)

    def test_values(self):
        self.assertEqual([behind(WORLD, commands).fate for commands in self.engines()], ["plays", "fallen", "over"])
        for commands in self.engines():
            for value in (*NO_NUMBERS, 2, -2, (3, 2), (-3, 2), (10 ** 30 + 1, 10 ** 30), 10 ** 60):
                if value not in ((1, 2), [1, 2]):
                    self.check_stays(commands, BadNumber, "pace", "run", value)
            for value in (*ODDITIES, 3, -1, 10 ** 60, (1, 2), (0, 1)):
                self.check_stays(commands, BadNumber, "number", "hop", value)
            for value in (*NO_NUMBERS, -1, (-1, 2), -10 ** 60):
                if value not in ((1, 2), [1, 2]):
                    self.check_stays(commands, BadNumber, "by", "on", value)
        for pace in (1, -1, 0, (1, 2), [-1, 2], (10 ** 30 - 1, 10 ** 30)):
            Engine(WORLD).run(pace=pace)
        Engine(WORLD).on(by=10 ** 60)
        self.check_raises(Refused, {"why": "hop"}, Engine(WORLD).hop, number=0)
        empty = Engine(World([BANK], [], (0, 0, 0), []))
        for value in (0, 1, -1):
            self.check_part(BadNumber, "number", empty.hop, value)

    def test_hops(self):
        window = Piece(1, 2, (1, 1), (1, 1))
        world = World([BANK, BANK, FAR], [(0, 1, window), (1, 0, None), (0, 2, None), (0, 1, None)], (0, 1, 0), [])
        for time, opened in ((0, [3]), (1, [0, 3]), ((3, 2), [0, 3]), (2, [0, 3]), ((5, 2), [3])):
            for link in range(4):
                engine = behind(world, [("on", time)])
                before = standing(engine)
                if link in opened:
                    self.assertIsNone(engine.hop(link))
                    self.assertEqual(engine.piece, 1)
                else:
                    self.check_raises(Refused, {"why": "hop"}, engine.hop, link)
                    self.assertEqual(standing(engine), before)


if __name__ == "__main__":
    unittest.main()
