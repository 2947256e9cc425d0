"""Witnesses, which every carry leaves as they are, and the charges of records on them."""

from crossparity.carries import every_carry, flips_of
from crossparity.errors import NoWitness
from crossparity.graphs import check_record


def common_parity(one, other):
    """Return 1 if an odd number of pairs are in both records, otherwise 0."""
    return len(set(one) & set(other)) % 2


def is_witness(graph, record):
    """Tell whether every carry of the graph flips an even number of the pairs of a record."""
    check_record(graph, record)
    return all([common_parity(record, flips_of(graph, carry)) == 0 for carry in every_carry(graph)])


def charge(graph, record, witness):
    """Return the charge of a record on a witness, 0 or 1."""
    check_record(graph, record)
    check_record(graph, witness)
    if not is_witness(graph, witness):
        raise NoWitness()
    return common_parity(record, witness)
