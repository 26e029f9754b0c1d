import random
import unittest

from grammar import MUCH, bent, front_item, piece_item, world_item
from helper import ODDITIES, LaneCase
from lanecross.errors import BadFront
from lanecross.fronts import front_read, front_text, full_front, spread
from lanecross.pieces import Piece
from lanecross.worlds import World
from reference import random_piece, random_row

PIECES = ("2 6 0 8 1 9", "0 3 1 0 1 0", "-7/2 1/3 -1/2 0 -1/3 5/7", "0 1 0 0 0 0")
FRONTS = ("-", "0 1", "0 1 1 0 2 1", "0 1/2 / 3 4 5 4", "-1/2 -3 1/3 4 1/2 4 / 1 0 / 3/2 7 5 7 6 -1/5")
WORLDS = (
    "piece 0 4 0 0 3 3 / piece 1 5 2 4 4 6 / link 0 1 / link 1 0 piece 0 4 0 0 3 3 / start 0 1/2 0 / goals 1",
    "piece 0 4 0 0 3 3 / start 0 0 0 / goals",
    "piece 0 4 0 0 3 3 / start 0 0 0 / goals 0",
    "piece -1/2 4 0 0 3 3 / piece 1 5 2 4 4 6 / piece 1 5 2 4 4 6 / link 0 2 / link 0 2 piece 1 2 0 0 1 1 / start 3/2 3/2 0 / goals 0 2")


class TextsTest(LaneCase):
    def check_bent(self, text, told, expected, as_text=str):
        self.assertIsNone(expected(text))
        self.assertEqual(as_text(told(text)), text)
        for other in bent(text):
            item = expected(other)
            with self.subTest(text=other):
                if item is None:
                    self.assertEqual(as_text(told(other)), other)
                else:
                    self.check_text(item, told, other)

    def test_pieces(self):
        for text in PIECES:
            self.check_bent(text, Piece.read, piece_item)
        self.assertEqual(Piece.read(text=PIECES[0]), Piece(2, 6, (0, 8), (1, 9)))

    def test_fronts(self):
        for text in FRONTS:
            self.check_bent(text, front_read, front_item, front_text)
        self.assertEqual(front_read(text="0 1 / 2 [0]".replace("[0]", "0")), (((0, 1),), ((2, 0),)))

    def test_worlds(self):
        for text in WORLDS:
            self.check_bent(text, World.read, world_item)
            self.assertTrue(World.read(text=text) == World.read(text))

    def test_items(self):
        for text, item in (("", 0), (" ", 0), ("0", 1), ("0 1 0 0 1", 5), ("0 1 0 0 1 1 ", 6), ("0 1 0 0 1 1 1", 6), ("1 1 0 0 1 1", 1),
                           ("1 0 x", 1), ("0 1 2 0 1 1", 4), ("0 1 0 2 1 1", 5), ("0 1 0 2 1 2/4", 5), ("0 1  0 1 1", 2)):
            self.check_text(item, Piece.read, text)
        for text, item in (("", 0), ("- ", 1), ("- -", 1), ("- 0 1", 1), ("/", 0), ("0", 1), ("0 /", 1), ("0 1 /", 3), ("0 1 / ", 3),
                           ("0 1 / 0 1", 3), ("0 1 / -1 1", 3), ("0 1 0 2", 2), ("0 1 -", 2), ("0 1 1", 3), ("0 0 1 1 2 2", 5),
                           ("0 0 1 1 2 2 x", 5), ("0 0 1 1 2 3 3 5", 7), ("0 1 / / 2 2", 3), ("0 0 / 1 1 / 2 2 3 3 4 4", 11)):
            self.check_text(item, front_read, text)
        self.assertEqual(front_read("0 0 / 1 1 / 2 2"), (((0, 0),), ((1, 1),), ((2, 2),)))
        start = "piece 0 4 0 0 3 3 / piece 0 4 0 0 3 3 / "
        for text, item in ((start + "start 0 0 2 / goals", 19), (start + "link 0 1 / link 0 1 / start 0 0 0 / goals 0 1", 31),
                           (start + "link 0 2 / start 0 0 0 / goals", 18), (start + "start 9 0 0 / goals 1 0", 23),
                           (start + "start 9 0 0 / goals 0 1", 23), (start + "goals", 16), (start + "start 0 0 1", 20),
                           (start + "start 0 0 1 /", 21), (start + "start 0 0 1 / goals 1/2", 22), ("start 0 0 0 / goals", 0),
                           (start + "link 0 1 / piece 0 4 0 0 3 3 / start 0 0 0 / goals", 20)):
            self.assertEqual(world_item(text), item)
            self.check_text(item, World.read, text)

    def test_too_many(self):
        piece, tail = "piece 0 1 0 0 1 1 / ", "start 0 0 0 / goals 59"
        self.assertEqual(len(World.read(piece * 60 + tail).pieces), 60)
        self.check_text(8 * 61 + 6, World.read, piece * 61 + tail)
        self.check_text(8 * 61 + 7, World.read, piece * 61 + tail + " 60")
        self.check_text(8 * 61 + 7, World.read, piece * 61 + tail + " 61")
        links = ["link %d %d" % (one, other) for one in range(26) for other in range(26) if one != other]
        head, tail = piece * 26, " / start 0 0 0 / goals"
        world = World.read(head + " / ".join(links[:600]) + tail)
        self.assertEqual(len(world.links), 600)
        self.assertEqual(str(world), head + " / ".join(links[:600]) + tail)
        self.check_text(8 * 26 + 4 * 601 + 5, World.read, head + " / ".join(links[:601]) + tail)

    def test_sixty_digits(self):
        most = "9" * 60
        text = "-%s %s/2 0 0 1/%s %s" % (most, most, most, most)
        self.assertEqual(str(Piece.read(text)), text)
        self.check_text(0, Piece.read, "-" + MUCH + text)
        self.assertEqual(front_text(front_read(most + " -" + most)), most + " -" + most)
        self.check_text(1, front_read, most + " " + MUCH)
        great = Piece(-(10 ** 100), (10 ** 70 + 1, 2), (0, 10 ** 60), (1, 10 ** 61))
        self.assertEqual(str(great), "-1%s 1%s1/2 0 1%s 1 1%s" % ("0" * 100, "0" * 69, "0" * 60, "0" * 61))
        self.check_text(0, Piece.read, str(great))

    def test_no_strings(self):
        for value in (*ODDITIES, 7, [PIECES[0]], b"-", Piece.read(PIECES[0]), ("-",)):
            if not isinstance(value, str):
                for told in (Piece.read, World.read, front_read):
                    self.check_text(0, told, value)

    def test_random_values(self):
        source = random.Random(41)
        for _ in range(80):
            piece = random_piece(source)
            self.assertTrue(Piece.read(str(piece)) == piece)
            for row in (random_row(source, piece), full_front(piece), spread(piece, random_row(source, piece))):
                self.assertEqual(front_read(front_text(row)), row)
                self.assertEqual(front_text([[list(corner) for corner in stretch] for stretch in row]), front_text(row))

    def test_no_rows(self):
        for value in (*ODDITIES, "-", [[]], [[(0, 0), (0, 1)]], [[(0, 0), (1, 1), (2, 2)]], [[(0, 0)], [(0, 1)]]):
            if value not in ((), []):
                self.check_part(BadFront, "front", front_text, value)
        self.assertEqual([front_text(()), front_text(front=[])], ["-", "-"])

    def test_long_texts(self):
        text = " / ".join("%d %d" % (at, at % 7) for at in range(1900))
        self.assertLess(len(text), 20000)
        self.assertEqual(front_text(front_read(text)), text)
        self.check_text(0, front_read, " " * 20000)
        self.check_text(0, World.read, "/" * 20000)


if __name__ == "__main__":
    unittest.main()
