"""Straight drawings without crossings, or subdivisions with a witness that there are none."""

from crossparity.drawings import Drawing, crossings
from crossparity.graphs import is_couple, is_record, is_row
from crossparity.planarity import is_planar
from crossparity.straight import straight
from crossparity.subdivisions import is_subdivision, subdivision_in, witness_of


def flat(graph):
    """Return a straight drawing without crossings, or a subdivision of K5 or K3,3 with its witness."""
    if is_planar(graph):
        return "drawing", straight(graph)
    word, paths = subdivision_in(graph)
    return "subdivision", word, paths, witness_of(paths)


def is_word(value, word):
    """Tell whether a value of any kind is this word."""
    return isinstance(value, str) and value == word


def has_drawing(graph, told):
    """Tell whether a value of any kind has the form of a result of flat with a drawing."""
    if not is_couple(told) or not is_word(told[0], "drawing"):
        return False
    return isinstance(told[1], Drawing) and told[1].graph == graph


def has_subdivision(graph, told):
    """Tell whether a value of any kind has the form of a result of flat with a subdivision."""
    if not isinstance(told, tuple) or len(told) != 4 or not is_word(told[0], "subdivision"):
        return False
    return isinstance(told[1], str) and is_row(told[2]) and is_record(graph, told[3])


def has_crossing(drawing):
    """Tell whether two edges of a drawing cross."""
    edges = drawing.graph.edges
    for at, one in enumerate(edges):
        if any([crossings(drawing, one, other) > 0 for other in edges[at + 1:]]):
            return True
    return False


def judge_drawing(drawing):
    """Return "right" if a drawing has neither bends nor crossings, otherwise what is wrong with it."""
    if any([len(bends) > 0 for bends in drawing.lines.values()]):
        return "bends"
    return "crossing" if has_crossing(drawing) else "right"


def judge_flat(graph, told):
    """Return "right" if a told value is a correct result of flat, otherwise what is wrong with it."""
    if has_drawing(graph, told):
        return judge_drawing(told[1])
    if not has_subdivision(graph, told):
        return "form"
    if not is_subdivision(graph, told[1], told[2]):
        return "paths"
    return "right" if sorted(told[3]) == witness_of(told[2]) else "witness"
