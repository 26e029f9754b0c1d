"""Tables: what can be reached of each piece of a world, and the soonest moment to win."""

from lanecross.checks import is_within
from lanecross.errors import BadNumber
from lanecross.reaching import forward_net, soonest_corner, start_layers
from lanecross.reckon import told
from lanecross.rows import told_row
from lanecross.worlds import check_world


def told_table(layer):
    """The table of raw lines."""
    return tuple([told_row(lines) for lines in layer])


def checked_layers(world, links):
    """The layers of a world by at most so many links, or as many as are needed."""
    check_world(world)
    if links is not None and not is_within(links, 0, None):
        raise BadNumber("links")
    return start_layers(world, forward_net(world), links)


def table(world, links=None):
    """The table by at most so many links; None stands for as many as one likes."""
    return told_table(checked_layers(world, links)[-1])


def soonest_by(world, links=None):
    """The soonest moment at which a play by at most so many links wins; None if none does."""
    found = soonest_corner(world, checked_layers(world, links)[-1])
    if found is None:
        return None
    return told(found[1][1])


def fewest(world):
    """The least number of links by which a play wins; None if none does."""
    for links, layer in enumerate(checked_layers(world, None)):
        if soonest_corner(world, layer) is not None:
            return links
    return None
