"""Taking the parts of a world from its text."""

from lanecross.pieces import piece_from


def pieces_from(reader):
    """Takes all pieces, and the word behind them: the pieces and the word."""
    reader.one_of(("piece",))
    word = "piece"
    pieces = []
    while word == "piece":
        pieces.append(piece_from(reader))
        reader.one_of(("/",))
        word = reader.one_of(("piece", "link", "start"))
    return pieces, word


def link_from(reader, many):
    """Takes a link between so many pieces, and the bar behind it."""
    one = reader.integer(0, many)
    other = reader.integer(0, many)
    if one == other:
        reader.refuse_last()
    if reader.one_of(("/", "piece")) == "/":
        return (one, other, None)
    window = piece_from(reader)
    reader.one_of(("/",))
    return (one, other, window)


def goals_from(reader, bound, many):
    """Takes all goals from bound to below many, which ascend, up to the end of the text."""
    goals = []
    while not reader.is_done():
        goals.append(reader.integer(bound, many))
        bound = goals[-1] + 1
    return goals


def parts_from(reader):
    """Takes the pieces, the links, the start and the goals of a world."""
    pieces, word = pieces_from(reader)
    links = []
    while word == "link":
        links.append(link_from(reader, len(pieces)))
        word = reader.one_of(("link", "start"))
    start = (reader.number(), reader.number(), reader.integer(0, len(pieces)))
    reader.one_of(("/",))
    reader.one_of(("goals",))
    return pieces, links, start, goals_from(reader, 0, len(pieces))
