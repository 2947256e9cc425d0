"""Carries that lead from one record to another one, or a witness that none do."""

from crossparity.carries import carried, convex, every_carry, flips_of, is_carry
from crossparity.errors import NotDrawable
from crossparity.graphs import check_record, is_couple, is_record, is_row, pairs
from crossparity.witnesses import charge, is_witness

# Records are kept here as numbers, with one bit for each pair: the sum of two records modulo 2
# is then one operation. A recipe is such a number too, with one bit for each carry.


def bits_of(graph):
    """Return the bit of each pair of the graph."""
    return {pair: 1 << at for at, pair in enumerate(pairs(graph))}


def number_of(bits, record):
    """Return the number that stands for a record."""
    return sum([bits[pair] for pair in record])


def chosen(values, number):
    """Return those values whose bit is set in a number."""
    return [value for at, value in enumerate(values) if (number >> at) & 1 == 1]


def reduced(basis, number, recipe):
    """Clear all pivots from a number; return what is left and the recipe that leads there."""
    for pivot in basis:
        if number & pivot != 0:
            row, used = basis[pivot]
            number ^= row
            recipe ^= used
    return number, recipe


def enlarged(basis, number, recipe):
    """Return the basis with an additional row, a number that is not 0 and contains no pivot."""
    pivot = number & -number
    larger = {pivot: (number, recipe)}
    for known in basis:
        row, used = basis[known]
        larger[known] = (row ^ number, used ^ recipe) if row & pivot != 0 else (row, used)
    return larger


def basis_of(graph):
    """Return a basis of what carries can flip, as (row, recipe) for each pivot.

    A pivot is a bit of its own row and of no other one, so that one pass over the rows reduces
    any number, and a pivot can be added to a witness without regard to the other rows.
    """
    bits = bits_of(graph)
    basis = {}
    for at, carry in enumerate(every_carry(graph)):
        number, recipe = reduced(basis, number_of(bits, flips_of(graph, carry)), 1 << at)
        if number != 0:
            basis = enlarged(basis, number, recipe)
    return basis


def witness_with(basis, bit):
    """Return the witness that contains this bit, which is not a pivot, and otherwise only pivots."""
    return bit + sum([pivot for pivot in basis if basis[pivot][0] & bit != 0])


def leading(graph, one, other):
    """Return carries that lead from one record to the other one, or a witness that none do."""
    check_record(graph, one)
    check_record(graph, other)
    bits = bits_of(graph)
    basis = basis_of(graph)
    left, recipe = reduced(basis, number_of(bits, one) ^ number_of(bits, other), 0)
    if left == 0:
        return "carries", chosen(every_carry(graph), recipe)
    # What is left has no pivot, so it shares only this bit with the witness; and clearing the pivots
    # took away rows, on which every witness has charge 0.
    return "witness", chosen(pairs(graph), witness_with(basis, left & -left))


def drawable(graph, record):
    """Return carries that lead from the convex record to a record, or a witness that none do."""
    return leading(graph, convex(graph, graph.vertices), record)


def carries_to(graph, record):
    """Return carries that lead from the convex record to a record; raise NotDrawable if none do."""
    word, row = drawable(graph, record)
    if word == "witness":
        raise NotDrawable(row)
    return row


def count(graph):
    """Return the number of records that drawings of the graph have."""
    return 1 << len(basis_of(graph))


def has_form(graph, told):
    """Tell whether a value of any kind has the form of a result of leading."""
    if not is_couple(told) or not isinstance(told[0], str):
        return False
    word, row = told
    if word == "carries":
        return are_distinct_carries(graph, row)
    return word == "witness" and is_record(graph, row)


def are_distinct_carries(graph, value):
    """Tell whether a value of any kind is a row of distinct carries of the graph."""
    if not is_row(value) or not all([is_carry(graph, carry) for carry in value]):
        return False
    return len(set(value)) == len(value)


def judge_leading(graph, one, other, told):
    """Return "right" if a told value is a correct result of leading, otherwise what is wrong with it."""
    check_record(graph, one)
    check_record(graph, other)
    if not has_form(graph, told):
        return "form"
    word, row = told
    if word == "carries":
        return "right" if carried(graph, one, row) == sorted(other) else "carries"
    if not is_witness(graph, row) or charge(graph, one, row) == charge(graph, other, row):
        return "witness"
    return "right"
