"""Spots that several pieces have in common, in raw fractions.

All of them have a place at a moment if no left edge is right of a right one. Two edges go
straight, so that this holds from a moment on, or up to one, or always, or never.
"""

from lanecross.lines import between
from lanecross.reckon import add, divide, greater, is_smaller, multiply, smaller, subtract
from lanecross.strips import edges_of


def room_at(left, right, moment):
    """How far a right edge is right of a left one at a moment."""
    return subtract(between(right[0], right[1], moment), between(left[0], left[1], moment))


def span_between(left, right, span):
    """The part of a span of time, first and last moment, when a left edge is not right of a right one; or None."""
    first, last = span
    begun, ended = room_at(left, right, first), room_at(left, right, last)
    is_begun, is_ended = not is_smaller(begun, (0, 1)), not is_smaller(ended, (0, 1))
    if is_begun and is_ended:
        return span
    if not is_begun and not is_ended:
        return None
    way = divide(begun, subtract(begun, ended))
    middle = add(first, multiply(way, subtract(last, first)))
    if is_begun:
        return (first, middle)
    return (middle, last)


def shared_time(edges):
    """The first and the last moment at which all pairs of edges are there; None if there is none."""
    first, last = edges[0][0][0][0], edges[0][0][1][0]
    for left, _ in edges:
        first, last = greater(first, left[0][0]), smaller(last, left[1][0])
    if is_smaller(last, first):
        return None
    return (first, last)


def shared_span(pieces):
    """The first and the last moment at which pieces have a spot in common; None if they have none."""
    edges = [edges_of(piece) for piece in pieces]
    span = shared_time(edges)
    for at, (left, _) in enumerate(edges):
        for index, (_, right) in enumerate(edges):
            if at != index and span is not None:
                span = span_between(left, right, span)
    return span
