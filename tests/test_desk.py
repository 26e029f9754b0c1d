import random
import unittest
from fractions import Fraction

from drawn import drawn_world
from grammar import bent, bent_signs, line_item
from helper import ODDITIES, LaneCase
from lanecross.desk import Desk
from lanecross.errors import BadText, BadWorld, Nothing, Refused, TooMany
from lanecross.films import commands_text
from lanecross.pieces import Piece
from lanecross.tables import soonest_by, table
from lanecross.worlds import World
from machine import Machine, planned_commands
from reference import frac, number, row_at
from test_pictures import columns_by_words, scene_by_words
from test_safe import wins_from

BANK, BOAT, FAR = Piece(0, 10, (0, 0), (3, 3)), Piece(0, 10, (1, 6), (2, 7)), Piece(0, 12, (6, 6), (8, 8))
WORLD = World([BANK, BOAT, FAR], [(0, 1, None), (1, 2, None), (1, 0, None)], (0, 0, 0), [2])
ASKS = ("where", "fate", "won", "play", "links", "soonest", "still")
GAME = ("run 1", "on 2", "hop 0", "on 2", "run 1/2", "on 4", "hop 1", "on 1/2", "on 50")
FATES = ("plays",) * 8 + ("over",)


def item(fraction, word="-"):
    return word if fraction is None else str(fraction)


def answer(machine, line):
    """The answer to an ask, by the second ways."""
    world, parts = machine.world, line.split(" ")
    stands = "{} {} {}".format(machine.moment, machine.place, machine.piece)
    if parts[0] == "where":
        return "{} {}".format(stands, machine.pace)
    if parts[0] == "fate":
        return machine.fate
    if parts[0] == "won":
        return item(None if machine.won() is None else frac(machine.won()))
    if parts[0] == "play":
        return " / ".join("{} {} {}".format(frac(moment), frac(place), piece) for moment, place, piece in machine.play())
    if parts[0] == "links":
        return " ".join(map(str, machine.open_links())) or "-"
    if parts[0] == "soonest":
        soonest = soonest_by(world)
        return item(None if soonest is None else frac(soonest), "never")
    if parts[0] == "still":
        station = (number(machine.moment), number(machine.place), machine.piece)
        return "yes" if machine.fate == "plays" and wins_from(world, station) else "no"
    if parts[0] == "front":
        return item(row_at(table(world)[int(parts[1])], Fraction(parts[2])))
    return "|".join(scene_by_words(world, Fraction(parts[1])))


def asks(source, world):
    """All asks, with drawn places and moments."""
    first, last = columns_by_words(world.pieces)
    yield from ASKS
    for _ in range(3):
        piece = source.randrange(len(world.pieces))
        front = [place for stretch in table(world)[piece] for place, _ in stretch]
        place = frac(source.choice(front)) if front and source.randint(0, 3) else Fraction(source.randint(2 * first - 2, 2 * last + 2), 2)
        yield "front {} {}".format(piece, place)
        yield "scene {}".format(Fraction(source.randint(-20, 40), source.choice((1, 2, 3))))


def shown(desk):
    """All that a desk shows, and what it could do again."""
    return desk.log, [desk.told(line) for line in ASKS]


class DeskTest(LaneCase):
    def check_asks(self, source, desk, machine):
        for line in asks(source, desk.world):
            before = desk.log
            self.assertEqual(desk.told(line), answer(machine, line), line)
            self.assertEqual(desk.log, before)

    def test_deeds_and_asks(self):
        source = random.Random(1301)
        refused, done, still = {"hop": 0, "fallen": 0, "over": 0}, 0, {"yes": 0, "no": 0}
        for _ in range(110):
            world = drawn_world(source, 4)
            desk, machine, row, log = Desk(world), Machine(world), [], []
            self.check_asks(source, desk, machine)
            for _ in range(10):
                row = row or planned_commands(source, machine)
                command = row.pop(0)
                line, why = commands_text([command]), machine.tell(command)
                if why is None:
                    self.assertEqual(desk.told(line), machine.fate)
                    log.append(line)
                    done += 1
                else:
                    before = shown(desk)
                    self.check_raises(Refused, {"why": why}, desk.told, line)
                    self.assertEqual(shown(desk), before)
                    refused[why] += 1
                self.assertEqual((desk.log, len(desk)), (tuple(log), len(log)))
                still[desk.told("still")] += 1
            self.check_asks(source, desk, machine)
        self.assertTrue(done > 300 and min(refused.values()) > 2 and min(still.values()) > 100, (done, refused, still))

    def test_by_hand(self):
        desk = Desk(world=WORLD)
        for name in ("__init__", "__eq__", "__len__", "told", "undo", "redo", "twin"):
            self.assertIn(name, vars(Desk))
        self.assertIs(desk.world, WORLD)
        self.assertEqual((desk.log, len(desk)), ((), 0))
        self.assertEqual([desk.told(line=line) for line in GAME], list(FATES))
        self.assertEqual((desk.log, len(desk)), (GAME, 9))
        self.assertEqual([desk.told(line) for line in ASKS],
                         ["12 8 2 1/2", "over", "8", "0 0 0 / 2 2 1 / 4 4 1 / 8 6 2 / 12 8 2", "-", "8", "no"])
        self.assertEqual([desk.told(line) for line in ("front 2 6", "front 2 13/2", "front 0 4", "scene 11", "scene -5")],
                         ["8", "17/2", "-", ".........|.........|......===", ".........|.........|........."])
        here = World([BANK, BANK, BANK], [(0, 1, None), (1, 0, None), (0, 2, None), (0, 1, BANK)], (0, 1, 0), [0])
        desk = Desk(here)
        self.assertEqual([desk.told(line) for line in ("won", "links", "soonest", "still", "front 1 1/2")], ["0", "0 2 3", "0", "yes", "1/2"])
        self.assertEqual([desk.told(line) for line in ("hop 2", "links", "still", "on 11", "still", "won")], ["plays", "-", "no", "over", "no", "0"])
        # In a goal one may win still; whoever has come to an end may not.
        desk = Desk(World([BANK, FAR], [], (0, 1, 0), [0]))
        self.assertEqual([desk.told(line) for line in ("still", "on 10", "still", "on 1", "still", "fate", "where", "on 0", "on 7")],
                         ["yes", "plays", "yes", "fallen", "no", "fallen", "10 1 0 0", "fallen", "fallen"])
        # Once it has fallen it could hop by no link, though its spot is let through.
        desk = Desk(World([BANK, FAR, Piece(0, 12, (0, 0), (2, 2))], [(0, 2, None)], (0, 1, 0), [2]))
        self.assertEqual([desk.told(line) for line in ("links", "on 10", "links", "on 0", "links", "on 1/7", "links", "still")],
                         ["0", "plays", "0", "plays", "0", "fallen", "-", "no"])
        never = Desk(World([BANK], [], (0, 1, 0), []))
        self.assertEqual([never.told(line) for line in ("soonest", "still", "won", "links", "play")], ["never", "no", "-", "-", "0 1 0"])

    def test_long_numbers(self):
        most = "9" * 60
        desk = Desk(WORLD)
        self.assertEqual([desk.told(line) for line in ("run 1/" + most, "on 1/" + most, "where", "scene " + most, "front 0 -" + most, "on " + most, "fate")],
                         ["plays", "plays", "1/{0} 1/{1}1 0 1/{0}".format(most, "9" * 59 + "8" + "0" * 59), "|".join(["." * 9] * 3), "-", "fallen", "fallen"])
        for line in ("on 1" + "0" * 60, "scene 1" + "0" * 60, "run 1/1" + "0" * 60):
            self.check_text(1, desk.told, line)

    def test_equal(self):
        one, other = Desk(WORLD), Desk(World.read(str(WORLD)))
        self.assertTrue(one == other)
        for line in GAME:
            one.told(line)
            self.assertFalse(one == other)
            self.assertTrue(one != other)
            other.told(line)
            self.assertTrue(one == other)
            other.told("where")
        one.undo()
        one.undo()
        one.redo()
        other.undo()
        self.assertTrue(one == other)
        again = Desk(WORLD)
        again.told("on 1")
        half = Desk(WORLD)
        half.told("on 1/2")
        half.told("on 1/2")
        self.assertFalse(again == half)  # their logs are unlike, though they answer alike
        self.assertFalse(Desk(WORLD) == Desk(World(WORLD.pieces, WORLD.links, WORLD.start, [])))
        for value in (None, 0, WORLD, (), one.log, "desk"):
            self.assertFalse(one == value)
            self.assertTrue(one != value)


class UndoTest(LaneCase):
    def behind(self, world, log):
        desk = Desk(world)
        for line in log:
            desk.told(line)
        return desk

    def test_drawn(self):
        """Against a log and a row of what was taken back, all told anew each time."""
        source = random.Random(1311)
        counts = {"told": 0, "undo": 0, "redo": 0, "nothing": 0, "refused": 0, "twin": 0}
        for _ in range(60):
            world = drawn_world(source, 3)
            desk, log, taken = Desk(world), [], []
            for _ in range(30):
                kind = source.choice(("told", "told", "told", "undo", "undo", "redo", "redo", "ask", "twin"))
                if kind == "told":
                    machine = Machine(world)
                    for line in log:
                        machine.tell(command_of(line))
                    command = planned_commands(source, machine)[0]
                    line, why = commands_text([command]), machine.tell(command)
                    if why is None:
                        self.assertEqual(desk.told(line), machine.fate)
                        log, taken = [*log, line], []
                    else:
                        self.check_raises(Refused, {"why": why}, desk.told, line)
                        kind = "refused"
                elif kind == "undo" and log:
                    self.assertEqual(desk.undo(), log[-1])
                    taken.append(log.pop())
                elif kind == "redo" and taken:
                    log.append(taken.pop())
                    self.assertEqual(desk.redo(), self.behind(world, log).told("fate"))
                elif kind in ("undo", "redo"):
                    self.check_raises(Nothing, {}, getattr(desk, kind))
                    kind = "nothing"
                elif kind == "twin":
                    twin = desk.twin()
                    self.assertIsInstance(twin, Desk)
                    self.assertTrue(twin == desk)
                    self.check_raises(Nothing, {}, twin.redo)
                    self.assertEqual(shown(twin), shown(desk))
                    while twin.log:
                        self.assertEqual(twin.undo(), log[len(twin)])
                    twin.told("on 1/3")
                else:
                    self.assertEqual(desk.told("where"), self.behind(world, log).told("where"))
                    continue
                counts[kind] += 1
                self.assertEqual(shown(desk), shown(self.behind(world, log)))
                self.assertEqual((desk.log, len(desk)), (tuple(log), len(log)))
        self.assertGreater(min(counts.values()), 30, counts)

    def test_what_raises_changes_nothing(self):
        desk = Desk(WORLD)
        for line in ("run 1", "on 1", "on 2"):
            desk.told(line)
        desk.undo()
        desk.undo()
        for line, error in (("hop 1", Refused), ("run 2", BadText), ("hop 3", BadText), ("x", BadText), (None, BadText), ("front 3 0", BadText)):
            with self.assertRaises(error):
                desk.told(line)
        desk.told("where"), desk.told("scene 0")
        # What was taken back can be done again still, the last one first.
        self.assertEqual([desk.redo(), desk.redo(), desk.log], ["plays", "plays", ("run 1", "on 1", "on 2")])
        self.check_raises(Nothing, {}, desk.redo)
        desk.undo()
        desk.told("on 1/2")
        self.check_raises(Nothing, {}, desk.redo)
        self.assertEqual(desk.log, ("run 1", "on 1", "on 1/2"))

    def test_nothing(self):
        desk = Desk(WORLD)
        self.check_raises(Nothing, {}, desk.undo)
        self.check_raises(Nothing, {}, desk.redo)
        desk.told("where")
        self.check_raises(Nothing, {}, desk.undo)
        desk.told("on 1")
        self.check_raises(Nothing, {}, desk.redo)
        self.assertEqual(desk.undo(), "on 1")
        self.check_raises(Nothing, {}, desk.undo)
        self.assertEqual((desk.redo(), desk.log), ("plays", ("on 1",)))

    def test_twins(self):
        desk = Desk(WORLD)
        for line in GAME[:4]:
            desk.told(line)
        desk.undo()
        twin = desk.twin()
        self.assertTrue(twin == desk and twin is not desk)
        self.check_raises(Nothing, {}, twin.redo)
        self.assertEqual(desk.redo(), "plays")
        self.assertEqual((twin.log, desk.log), (GAME[:3], GAME[:4]))
        twin.told("run -1")
        self.assertEqual((twin.told("where"), desk.told("where")), ("2 2 1 -1", "4 4 1 1"))
        self.assertEqual([twin.undo() for _ in range(4)], ["run -1", *GAME[2::-1]])
        self.assertEqual((len(twin), len(desk), desk.undo()), (0, 4, GAME[3]))

    def test_two_hundred_lines(self):
        desk = Desk(WORLD)
        for at in range(200):
            self.assertEqual(desk.told("on 1/%d" % (21 + at) if at % 2 else "run 1/%d" % (100 + at)), "plays")
        self.assertEqual(len(desk), 200)
        before = shown(desk)
        for line in ("run 0", "on 0", "on 99", "hop 0", "hop 2"):
            self.check_raises(TooMany, {"what": "lines", "most": 200}, desk.told, line)
        for line, at in (("run 2", 1), ("hop 3", 1), ("on -1", 1), ("where 1", 1)):
            self.check_text(at, desk.told, line)
        self.assertEqual(shown(desk), before)
        self.assertEqual([desk.undo(), desk.told("on 99"), len(desk)], ["on 1/220", "fallen", 200])
        # Fallen, and full: the latter comes first.
        self.check_raises(TooMany, {"what": "lines", "most": 200}, desk.told, "run 0")
        self.assertEqual(desk.undo(), "on 99")
        self.assertEqual([desk.redo(), len(desk)], ["fallen", 200])
        twin = desk.twin()
        self.check_raises(TooMany, {"what": "lines", "most": 200}, twin.told, "on 0")
        while desk.log:
            desk.undo()
        for _ in range(200):
            desk.redo()
        self.assertTrue(desk == twin)
        self.check_raises(Nothing, {}, desk.redo)


def command_of(line):
    word, value = line.split(" ")
    return (word, int(value) if word == "hop" else number(Fraction(value)))


class LinesTest(LaneCase):
    def test_bent(self):
        """The first item that cannot stand is told; other lines are answered."""
        few = World(WORLD.pieces, WORLD.links[:1], WORLD.start, WORLD.goals)
        for world in (WORLD, few):
            expected = line_item(world)
            for text in ("run 1", "run -1", "run 1/2", "on 0", "on 3/2", "hop 0", "where", "fate", "won", "play", "links", "soonest", "still", "front 0 7/2", "front 2 -1",
                         "scene 4", "scene -1/2"):
                self.assertIsNone(expected(text))
                for other in {text, *bent(text), *bent_signs(text)}:
                    at, desk = expected(other), Desk(world)
                    with self.subTest(text=other):
                        if at is not None:
                            self.check_text(at, desk.told, other)
                        else:
                            try:
                                self.assertIsInstance(desk.told(other), str)
                            except Refused:
                                self.assertEqual(other.split(" ")[0], "hop")
                        self.assertEqual(desk.log, (other,) if at is None and other.split(" ")[0] in ("run", "on") or other == "hop 0" and desk.log else ())

    def test_items(self):
        for line, at in (("", 0), (" ", 0), ("run", 1), ("run ", 1), ("run 1 ", 2), ("run 1 1", 2), ("run 3/2", 1), ("run -2", 1), ("hop", 1), ("hop 3", 1), ("hop -1", 1),
                         ("hop 1/2", 1), ("on", 1), ("on -1", 1), ("on -1/2", 1), ("where where", 1), ("where ", 1), (" where", 0), ("Where", 0), ("front", 1), ("front 0", 2),
                         ("front 3 0", 1), ("front 0 x", 2), ("front 0 1 1", 3), ("front 1/2 0", 1), ("front -1 0", 1), ("scene", 1), ("scene x", 1), ("scene 1 1", 2),
                         ("undo", 0), ("redo", 0), ("twin", 0), ("-", 0), ("on 1 / on 1", 2), ("won 1", 1), ("play 0", 1)):
            self.assertEqual(line_item(WORLD)(line), at)
            self.check_text(at, Desk(WORLD).told, line)
        for value in (*ODDITIES, 7, ["where"], ("where",), b"where", {"where": 1}):
            if not isinstance(value, str):
                self.check_text(0, Desk(WORLD).told, value)
        lonely = Desk(World([BANK], [], (0, 0, 0), []))
        for line, at in (("hop 0", 1), ("front 1 0", 1)):
            self.check_text(at, lonely.told, line)
        self.check_text(0, lonely.told, " " * 20000)
        self.check_text(1, lonely.told, "on " + "1" * 19990)

    def test_worlds(self):
        for value in (*ODDITIES, BANK, str(WORLD), World, Desk(WORLD)):
            self.check_part(BadWorld, "world", Desk, value)


if __name__ == "__main__":
    unittest.main()
