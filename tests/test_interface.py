"""Each name of the interface is there, defined in its own file, with the parameters that the document tells."""

import ast
import importlib
import inspect
import os
import unittest

FOLDER = os.path.join(os.path.dirname(os.path.dirname(os.path.abspath(__file__))), "lanecross")
INTERFACE = """
checks is_integer(value) is_within(value,least,most) is_number(value) is_spot(value)
papers Paper(word,*parts) Denial(word,*parts) fixed(value)
numbers ratio(above,below) plus(one,other) minus(one,other) times(one,other) over(one,other) distance(one,other) is_less(one,other)
numbers least(values) greatest(values) number_text(value) number_of(text)
pieces Piece(begin,end,left,right) at_moment(piece,moment) first_at(piece,place) last_at(piece,place)
fronts is_front(piece,value) full_front(piece) spot_front(piece,moment,place) spread(piece,row) least_of(piece,one,other)
fronts through(front,one,other,window) front_at(front,place) lowest(front) is_behind(front,moment,place) covers(one,other)
fronts front_text(front) front_read(text)
worlds World(pieces,links,start,goals) links_from(world,piece)
turned mirrored(world) moved(world,moment,place) stretched(world,factor) backward(world,start,goals) without(world,piece)
turned with_piece(world,piece,links) with_links(world,links)
plays is_play(world,value) starts(world,play) wins_at(world,play) where_at(world,play,moment) plain(world,play) straightened(world,play)
plays parted(world,play,moment) joined(world,one,other) hops_of(world,play)
tables table(world,links=None) soonest_by(world,links=None) fewest(world)
soonest Soonest(moment,run,table) Never(table) soonest(world) run_to(world,station)
safe safe_table(world) alive_table(world) is_safe(world,station) is_alive(world,station) last_call(world,piece,place)
safe last_stand(world,piece,place) Safe(play) Alive(play) Lost(table) Doomed(table) escape(world,station) lasting(world,station)
check_tables is_closed(world,value) shows_soonest(world,value) shows_run(world,station,value) is_kept(world,value)
check_tables shows_escape(world,station,value) shows_lasting(world,station,value)
lanes Body(piece,lock=None) Lane(kind,wide,bodies=()) cuts_of(lane,end,keys=()) ground_of(lane,end,keys=())
levels Level(lanes,end,lifts,keyring,start,goals) free_at(level,lane,moment,keys=())
compiled world_of(level) whence(level) piece_at(level,moment,lane,place,keys=())
edits needed_links(world) delays(world) Needed(pieces,tables,runs) needed(world) Bar(pieces,table) NoBar(run) least_bar(world)
check_edits shows_needed(world,value) shows_bar(world,value)
level_edits without_body(level,lane,body) unlocked(level,key) ended(level,end) in_the_way(level)
engine Engine(world)
films is_command(value) played(world,commands) commands_for(world,play) commands_text(commands) commands_of(text) film(world,play,step)
pictures columns_of(world) scene(world,moment,play=None) chart(piece,front)
stories Story(play,won,fate) story(world,commands) shows_story(world,commands,value) are_alike(world,one,other)
desk Desk(world)
errors LaneError BadNumber(part) BadSpot(part) BadPiece(part) BadFront(part) BadWorld(part) BadLevel(part) BadPlay(part) BadPaper(part)
errors Misfit(part) NoName(value) NoPiece(value) Twice(value) TooMany(what,most) Refused(why) Nothing BadText(line,item) BadLine(line,error)
"""
METHODS = """
papers Paper.__eq__(other)
pieces Piece.__eq__(other) Piece.__str__() Piece.read(text) Piece.has(moment,place) Piece.backward()
worlds World.__eq__(other) World.__str__() World.read(text)
lanes Body.__eq__(other) Lane.__eq__(other)
levels Level.__eq__(other) Level.__str__() Level.read(text)
engine Engine.run(pace) Engine.hop(number) Engine.on(by)
desk Desk.__eq__(other) Desk.__len__() Desk.told(line) Desk.undo() Desk.redo() Desk.twin()
"""


def listed(text):
    for row in text.split("\n"):
        for name in row.split(" ")[1:]:
            yield row.split(" ")[0], name.partition("(")[0], name


class InterfaceTest(unittest.TestCase):
    def written(self, told, name):
        return name + str(inspect.signature(told)).replace(" ", "").replace("(self,", "(").replace("(self)", "()")

    def test_names(self):
        for module, name, wanted in listed(INTERFACE):
            with self.subTest(module=module, name=name):
                found = getattr(importlib.import_module("lanecross." + module), name)
                self.assertEqual(found.__module__, "lanecross." + module)
                if "(" in wanted:
                    self.assertEqual(self.written(found, name), wanted)

    def test_methods(self):
        for module, name, wanted in listed(METHODS):
            with self.subTest(module=module, name=name):
                kind, method = name.split(".")
                made = getattr(importlib.import_module("lanecross." + module), kind)
                self.assertIn(method, vars(made))
                self.assertEqual(self.written(getattr(made, method), name), wanted)

    def test_defined_in_their_files(self):
        for module, name, _ in listed(INTERFACE):
            with open(os.path.join(FOLDER, module + ".py"), encoding="utf-8") as stream:
                tree = ast.parse(stream.read())
            self.assertEqual([node.name for node in tree.body if isinstance(node, (ast.FunctionDef, ast.ClassDef)) and node.name == name], [name])

    def test_papers(self):
        """Which classes of papers say no; each word is the name of its class in small letters."""
        papers = importlib.import_module("lanecross.papers")
        denials = {"Never", "Lost", "Doomed", "NoBar", "Denial"}
        found = set()
        for module, name, wanted in listed(INTERFACE):
            made = getattr(importlib.import_module("lanecross." + module), name)
            if isinstance(made, type) and issubclass(made, papers.Paper) and module != "papers":
                paper = made(*[None] * (wanted.count(",") + 1))
                self.assertEqual((paper.word, len(paper.parts), bool(paper)), (name.lower(), wanted.count(",") + 1, name not in denials))
                self.assertIs(issubclass(made, papers.Denial), name in denials)
                found.add(name)
        self.assertEqual(found, {"Soonest", "Never", "Safe", "Alive", "Lost", "Doomed", "Needed", "Bar", "NoBar", "Story"})


if __name__ == "__main__":
    unittest.main()
