"""Walks mixed with one another, or with themselves backwards."""

from surerwalks.common import blended
from surerwalks.ratios import Ratio
from surerwalks.strays import error_table
from surerwalks.walks import backwards, check_pair, check_walk, mixed, part_of


def half_back(walk):
    """The Walk mixed, half and half, with itself backwards."""
    return mixed(walk, backwards(walk), Ratio(1, 2))


def lot_table(walk, other, part):
    """The error table of both mixed."""
    return error_table(mixed(walk, other, part))


def mixed_table(walk, other, part):
    """The part times the walk's error table, and the rest times the other one's."""
    check_walk(walk)
    check_walk(other)
    first = part_of(part)
    check_pair(walk, other)
    return blended(error_table(walk), error_table(other), first)
