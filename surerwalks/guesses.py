"""Walks by guessed weights: how far averages along them stray."""

from surerwalks.common import is_list
from surerwalks.errors import InvalidGuesses, NotWhole, TooMany
from surerwalks.ratios import Ratio
from surerwalks.rules import proposal_of, shares_of, weights_of
from surerwalks.spreads import guess_of
from surerwalks.strays import error_rows
from surerwalks.walks import left_lot

MOST_STANDINGS = 8


def guessed_table(proposal, weights, guesses):
    """The form whose worth at a function of the place is how far averages along the walk of standings stray."""
    rows = proposal_of(proposal)
    shares = shares_of(weights_of(weights, len(rows)))
    told = _guesses_of(guesses, len(rows))
    # A standing: its place, its worth, and the chance that this worth is drawn there.
    standings = [
        (place, worth, chance) for place, parts in enumerate(told) for chance, worth in parts if worth.sign > 0
    ]
    chances = [_row(rows, shares, standings, at) for at in range(len(standings))]
    if left_lot(chances) is not None:
        raise NotWhole()
    if len(standings) > MOST_STANDINGS:
        raise TooMany("standings", MOST_STANDINGS)
    table = error_rows(chances, [shares[place] * chance * worth for place, worth, chance in standings])
    return _by_places(table, [standing[0] for standing in standings], len(rows))


def _guesses_of(value, many):
    """The chances and worths of so many guesses; others are refused."""
    if not is_list(value) or len(value) != many:
        raise InvalidGuesses(value)
    told = [guess_of(guess) for guess in value]
    if any([parts is None for parts in told]):
        raise InvalidGuesses(value)
    return told


def _row(rows, shares, standings, at):
    """The chances of the next standing from the one at this position."""
    row = [_step(rows, shares, standings[at], to) for to in standings]
    row[at] = Ratio(0)
    row[at] = 1 - Ratio.total(row)
    return row


def _step(rows, shares, start, to):
    """The chance that a standing is proposed, drawn and taken."""
    (x, v, _), (y, w, drawn) = start, to
    # Both flows lack the chances of the worths, which stand in either of them.
    there, back = shares[x] * v * rows[x][y], shares[y] * w * rows[y][x]
    less = back if back.is_below(there) else there
    return drawn * less.over(shares[x] * v)


def _by_places(table, places, many):
    """The entries of a table of standings, those of a place added up."""
    found = [[Ratio(0)] * many for _ in range(many)]
    for x, row in zip(places, table):
        for y, number in zip(places, row):
            found[x][y] = found[x][y] + number
    return found
