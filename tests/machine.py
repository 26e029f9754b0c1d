"""A second way to engines and desks: by fractions, inequalities and the words of the document; and drawn commands."""

from fractions import Fraction

from drawn import goes, hop_ends, lets
from reference import edge_at, frac, has, number

PACES = (0, 0, 1, 1, -1, -1, Fraction(1, 2), Fraction(-1, 2), Fraction(1, 3), Fraction(-2, 3), Fraction(5, 7), Fraction(-9, 10))
TIMES = (0, Fraction(1, 2), Fraction(1, 3), 1, Fraction(7, 5), 2, 3)


def plain_by_words(play):
    """A play of fractions without stations that could be left out, one after another."""
    play = list(play)
    while True:
        for at in range(1, len(play) - 1):
            (t, x, p), (u, y, q), (v, z, _) = play[at - 1:at + 2]
            if p == q and (v == u or (y - x) / (u - t) == (z - y) / (v - u)):
                del play[at]
                break
        else:
            return play


class Machine:
    """An engine by fractions. Each command returns why it is refused, or None."""

    def __init__(self, world):
        self.world = world
        moment, place, self.piece = world.start
        self.moment, self.place, self.pace, self.fate = frac(moment), frac(place), Fraction(0), "plays"
        self.stations = [(self.moment, self.place, self.piece)]

    def note(self):
        self.stations.append((self.moment, self.place, self.piece))

    def room(self):
        """For how long the piece has the way straight on."""
        piece = self.world.pieces[self.piece]
        most = frac(piece.end) - self.moment
        for edge, sign in ((piece.left, 1), (piece.right, -1)):
            apart = sign * (self.place - edge_at(piece, edge, self.moment))
            nearer = sign * ((frac(edge[1]) - frac(edge[0])) / (frac(piece.end) - frac(piece.begin)) - self.pace)
            if nearer > 0:
                most = min(most, apart / nearer)
        return most

    def lets(self, number_of_link):
        one, other, window = self.world.links[number_of_link]
        grounds = [self.world.pieces[other]] + ([] if window is None else [window])
        return one == self.piece and all(has(ground, self.moment, self.place) for ground in grounds)

    def open_links(self):
        return [at for at in range(len(self.world.links)) if self.fate == "plays" and self.lets(at)]

    def tell(self, command):
        word, value = command
        if word == "on":
            return self.on(frac(value))
        if self.fate != "plays":
            return self.fate
        if word == "run":
            self.pace = frac(value)
        elif value not in self.open_links():
            return "hop"
        else:
            self.piece = self.world.links[value][1]
            self.note()
        return None

    def on(self, by):
        if self.fate != "plays":
            return
        room = self.room()
        time = min(by, room)
        self.moment, self.place = self.moment + time, self.place + self.pace * time
        if time > 0:
            self.note()
        if by > room:
            self.fate = "over" if self.moment == max(frac(piece.end) for piece in self.world.pieces) else "fallen"

    def won(self):
        return next((number(moment) for moment, _, piece in self.stations if piece in self.world.goals), None)

    def play(self):
        return tuple((number(moment), number(place), piece) for moment, place, piece in plain_by_words(self.stations))

    def stands(self):
        return (number(self.moment), number(self.place), self.piece, number(self.pace), self.fate, self.won(), self.play())


def standing(engine):
    """All that an engine shows."""
    return (engine.moment, engine.place, engine.piece, engine.pace, engine.fate, engine.won, engine.play)


def drawn_command(source, machine):
    """A command that mostly leads on: times that just reach an edge or an end, go beyond, or stay within; links that let and not."""
    kind, links = source.randint(0, 9), machine.world.links
    opened = machine.open_links()
    if kind < 3 or (kind < 6 and not opened):
        return ("run", number(Fraction(source.choice(PACES))))
    if kind < 6 and source.randint(0, 7):
        return ("hop", source.choice(opened))
    if kind == 6 and links:
        return ("hop", source.randrange(len(links)))
    room = machine.room()
    times = [*TIMES, room, room / 2, room / 3, room * 2 / 3]
    if source.randint(0, 9) == 0:
        times = [room + Fraction(1, 1000003), room + 1]
    by = source.choice(times)
    return ("on", number(Fraction(min(by, room) if source.randint(0, 9) else by)))


def planned_commands(source, machine):
    """Commands that lead to a hop, if one is seen; otherwise any one."""
    here = (number(machine.moment), number(machine.place), machine.piece)
    ends = [end for end in hop_ends(source, machine.world, here) if goes(machine.world, here, end)]
    if machine.fate != "plays" or not ends or source.randint(0, 2) == 0:
        return [drawn_command(source, machine)]
    moment, place, piece = source.choice(ends)
    time, found = frac(moment) - machine.moment, []
    if time > 0:
        found = [("run", number((frac(place) - machine.place) / time)), ("on", number(time))]
    return [*found, ("hop", source.choice(lets(machine.world, machine.piece, piece, frac(moment), frac(place))))]


def drawn_commands(source, world, many=10):
    """Commands, with the machine behind them; those that are refused are left out."""
    machine, commands = Machine(world), []
    while many > 0:
        many -= 1
        for command in planned_commands(source, machine):
            if machine.tell(command) is None:
                commands.append(command)
    return commands, machine


def in_frames(source, commands):
    """The same commands, with times cut, paces told anew or told and taken back at once, and no time told between."""
    found, pace = [], 0
    for word, value in commands:
        if word == "run":
            pace = value
            if source.randint(0, 1):
                found.append(("run", number(Fraction(source.choice(PACES)))))
            found.append(("run", value))
        elif word == "on":
            parts = source.randint(1, 4)
            cuts = sorted(frac(value) * Fraction(source.randint(0, 12), 12) for _ in range(parts - 1))
            for one, other in zip([0, *cuts], [*cuts, frac(value)]):
                found.append(("on", number(other - one)))
                if source.randint(0, 2) == 0 and other < frac(value):
                    found.extend([("run", -1), ("run", pace)])
        else:
            if source.randint(0, 1):
                found.append(("on", 0))
            found.append((word, value))
            if source.randint(0, 2) == 0:
                found.append(("run", pace))
    return found
