import random
import unittest

from grammar import MUCH, front_item, level_item, piece_item, world_item
from helper import ODDITIES, LaneCase
from lanecross.errors import BadFront
from lanecross.fronts import front_read, front_text, full_front, spread
from lanecross.levels import Level
from lanecross.pieces import Piece
from lanecross.worlds import World
from reference import random_piece, random_row

PIECES = ("2 6 0 8 1 9", "0 3 1 0 1 0", "-7/2 1/3 -1/2 0 -1/3 5/7", "0 1 0 0 0 0")
FRONTS = ("-", "0 1", "0 1 1 0 2 1", "0 1/2 / 3 4 5 4", "-1/2 -3 1/3 4 1/2 4 / 1 0 / 3/2 7 5 7 6 -1/5")
WORLDS = (
    "piece 0 4 0 0 3 3 / piece 1 5 2 4 4 6 / link 0 1 / link 1 0 piece 0 4 0 0 3 3 / start 0 1/2 0 / goals 1",
    "piece 0 4 0 0 3 3 / start 0 0 0 / goals",
    "piece 0 4 0 0 3 3 / start 0 0 0 / goals 0",
    "piece -1/2 4 0 0 3 3 / piece 1 5 2 4 4 6 / piece 1 5 2 4 4 6 / link 0 2 / link 0 2 piece 1 2 0 0 1 1 / start 3/2 3/2 0 / goals 0 2")

LEVELS = (
    "level 6 / road 4 / road 4 / body 1 4 0 3 2 5 / start 0 1 / goals 1",
    "level 5 / road 4 / river 5 / body 0 4 0 2 1 3 / body 2 6 2 2 3 3 lock 0 / lift 0 1 0 1 0 0 4 4 / key 0 0 5 3 3 4 4 / start 1 1/2 / goals 0",
    "level 7/2 / river 1/3 / body -1 1/2 0 0 1 1 / start 0 0 / goals 0",
    "level 3 / road 2 / body 0 1 0 0 1 1 lock 1 / road 1 / lift 0 1 0 1 0 0 1 1 / lift 0 1 0 2 0 0 1 1 / key 0 0 1 0 0 1 1 / key 1 0 1 0 0 1 1 / "
    "start 0 1 / goals 0 1")


class TextsTest(LaneCase):
    def test_pieces(self):
        for text in PIECES:
            self.check_bent(text, Piece.read, piece_item)
        self.assertEqual(Piece.read(text=PIECES[0]), Piece(2, 6, (0, 8), (1, 9)))

    def test_fronts(self):
        for text in FRONTS:
            self.check_bent(text, front_read, front_item, front_text)
        self.assertEqual(front_read(text="0 1 / 2 [0]".replace("[0]", "0")), (((0, 1),), ((2, 0),)))

    def test_worlds(self):
        for text in WORLDS:
            self.check_bent(text, World.read, world_item)
            self.assertTrue(World.read(text=text) == World.read(text))

    def test_levels(self):
        for text in LEVELS:
            self.check_bent(text, Level.read, level_item)
            self.assertTrue(Level.read(text=text) == Level.read(text))

    def test_items_of_levels(self):
        road, body, lift, key = "road 4 / ", "body 8 9 0 0 1 1 / ", "lift 0 1 0 {} 0 0 1 1 / ", "key 0 0 1 0 0 1 1 / "
        end = "start 0 1 / goals 0"
        for many in (1, 2, 7, 8, 9):
            self.check_level_item("level 6 / " + road * many + end, 3 + 3 * 8 if many > 8 else None)
        for many in (1, 23, 24, 25, 26):
            self.check_level_item("level 6 / " + road + body * many + end, 3 + 3 + 8 * 24 if many > 24 else None)
            self.check_level_item("level 6 / " + road + body * (many // 2) + road + body * (many - many // 2) + end, 3 + 6 + 8 * 24 if many > 24 else None)
        for many in (1, 11, 12, 13):
            self.check_level_item("level 6 / " + road * 2 + "".join(lift.format(at + 1) for at in range(many)) + end, 9 + 10 * 12 if many > 12 else None)
        for many in (1, 2, 3):
            self.check_level_item("level 6 / " + road + key * many + end, 6 + 9 * 2 if many > 2 else None)
        for text, item in (("level 6 / " + road + end[:-2], 11), ("level 6 / " + road + "start 0 1 / goals 0 0", 12), ("level 0 / " + road + end, 1),
                           ("level -1/2 / " + road + end, 1), ("level 6 / road 0 / " + end, 4), ("level 6 / " + end, 3), ("level 6 / " + road + lift.format(1) + end, 8),
                           ("level 6 / " + road * 2 + lift.format(1) * 2 + end, 34), ("level 6 / " + road + body[:-2] + "lock 2 / " + end, 14),
                           ("level 6 / " + road + body[:-2] + "lock 0 / " + end, 21), ("level 6 / " + road + body[:-2] + "lock 0 / " + key + end, None),
                           ("level 6 / " + road + body[:-2] + "lock 1 / " + key + end, 30), ("level 6 / " + road + "body 0 1 0 0 2 2 / start 0 1 / goals 0", 19),
                           ("level 6 / " + road * 2 + lift.format(1).replace("0 1", "1 1", 1) + end, 11), ("level 6 / " + road + "key 1 0 1 0 0 1 1 / " + end, 7),
                           ("level 6 / " + road + "start 0 9 / goals 0", 11), ("level 6 / " + road + "start 1 1 / goals 0", 7), ("level", 1), ("", 0)):
            self.check_level_item(text, item)
        for value in (None, 7, b"level", ["level"], Level):
            self.check_text(0, Level.read, value)

    def check_level_item(self, text, item):
        self.assertEqual(level_item(text), item, text)
        if item is None:
            self.assertEqual(str(Level.read(text)), text)
        else:
            self.check_text(item, Level.read, text)

    def test_items(self):
        for text, item in (("", 0), (" ", 0), ("0", 1), ("0 1 0 0 1", 5), ("0 1 0 0 1 1 ", 6), ("0 1 0 0 1 1 1", 6), ("1 1 0 0 1 1", 1),
                           ("1 0 x", 1), ("0 1 2 0 1 1", 4), ("0 1 0 2 1 1", 5), ("0 1 0 2 1 2/4", 5), ("0 1  0 1 1", 2)):
            self.check_text(item, Piece.read, text)
        for text, item in (("", 0), ("- ", 1), ("- -", 1), ("- 0 1", 1), ("/", 0), ("0", 1), ("0 /", 1), ("0 1 /", 3), ("0 1 / ", 3),
                           ("0 1 / 0 1", 3), ("0 1 / -1 1", 3), ("0 1 0 2", 2), ("0 1 -", 2), ("0 1 1", 3), ("0 0 1 1 2 2", 5),
                           ("0 0 1 1 2 2 x", 5), ("0 0 1 1 2 3 3 5", 7), ("0 1 / / 2 2", 3), ("0 0 / 1 1 / 2 2 3 3 4 4", 11)):
            self.check_text(item, front_read, text)
        self.assertEqual(front_read("0 0 / 1 1 / 2 2"), (((0, 0),), ((1, 1),), ((2, 2),)))
        start = "piece 0 4 0 0 3 3 / piece 0 4 0 0 3 3 / "
        for text, item in ((start + "start 0 0 2 / goals", 19), (start + "link 0 1 / link 0 1 / start 0 0 0 / goals 0 1", 31),
                           (start + "link 0 2 / start 0 0 0 / goals", 18), (start + "start 9 0 0 / goals 1 0", 23),
                           (start + "start 9 0 0 / goals 0 1", 23), (start + "goals", 16), (start + "start 0 0 1", 20),
                           (start + "start 0 0 1 /", 21), (start + "start 0 0 1 / goals 1/2", 22), ("start 0 0 0 / goals", 0),
                           (start + "link 0 1 / piece 0 4 0 0 3 3 / start 0 0 0 / goals", 20)):
            self.assertEqual(world_item(text), item)
            self.check_text(item, World.read, text)

    def test_too_many(self):
        piece, tail = "piece 0 1 0 0 1 1 / ", "start 0 0 0 / goals 59"
        self.assertEqual(len(World.read(piece * 60 + tail).pieces), 60)
        self.check_text(8 * 61 + 6, World.read, piece * 61 + tail)
        self.check_text(8 * 61 + 7, World.read, piece * 61 + tail + " 60")
        self.check_text(8 * 61 + 7, World.read, piece * 61 + tail + " 61")
        links = ["link %d %d" % (one, other) for one in range(26) for other in range(26) if one != other]
        head, tail = piece * 26, " / start 0 0 0 / goals"
        world = World.read(head + " / ".join(links[:600]) + tail)
        self.assertEqual(len(world.links), 600)
        self.assertEqual(str(world), head + " / ".join(links[:600]) + tail)
        self.check_text(8 * 26 + 4 * 601 + 5, World.read, head + " / ".join(links[:601]) + tail)

    def test_sixty_digits(self):
        most = "9" * 60
        text = "-%s %s/2 0 0 1/%s %s" % (most, most, most, most)
        self.assertEqual(str(Piece.read(text)), text)
        self.check_text(0, Piece.read, "-" + MUCH + text)
        self.assertEqual(front_text(front_read(most + " -" + most)), most + " -" + most)
        self.check_text(1, front_read, most + " " + MUCH)
        great = Piece(-(10 ** 100), (10 ** 70 + 1, 2), (0, 10 ** 60), (1, 10 ** 61))
        self.assertEqual(str(great), "-1%s 1%s1/2 0 1%s 1 1%s" % ("0" * 100, "0" * 69, "0" * 60, "0" * 61))
        self.check_text(0, Piece.read, str(great))

    def test_no_strings(self):
        for value in (*ODDITIES, 7, [PIECES[0]], b"-", Piece.read(PIECES[0]), ("-",)):
            if not isinstance(value, str):
                for told in (Piece.read, World.read, front_read):
                    self.check_text(0, told, value)

    def test_random_values(self):
        source = random.Random(41)
        for _ in range(80):
            piece = random_piece(source)
            self.assertTrue(Piece.read(str(piece)) == piece)
            for row in (random_row(source, piece), full_front(piece), spread(piece, random_row(source, piece))):
                self.assertEqual(front_read(front_text(row)), row)
                self.assertEqual(front_text([[list(corner) for corner in stretch] for stretch in row]), front_text(row))

    def test_no_rows(self):
        for value in (*ODDITIES, "-", [[]], [[(0, 0), (0, 1)]], [[(0, 0), (1, 1), (2, 2)]], [[(0, 0)], [(0, 1)]]):
            if value not in ((), []):
                self.check_part(BadFront, "front", front_text, value)
        self.assertEqual([front_text(()), front_text(front=[])], ["-", "-"])

    def test_long_texts(self):
        text = " / ".join("%d %d" % (at, at % 7) for at in range(1900))
        self.assertLess(len(text), 20000)
        self.assertEqual(front_text(front_read(text)), text)
        self.check_text(0, front_read, " " * 20000)
        self.check_text(0, World.read, "/" * 20000)


if __name__ == "__main__":
    unittest.main()
