"""The lifted nearness of two values."""

from neargrades.lifters import Lifter
from neargrades.tables import check_table


def lifted(kind, scale, table, v, w):
    """The lifted nearness of two values of a kind by a table of pairs of states."""
    check_table(scale, table)
    return Lifter(kind, scale, {"v": v}, {"w": w}, table).lifted("v", "w")
