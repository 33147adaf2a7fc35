"""Claims, their contraries, and papers that show them."""

from surerwalks.basics import is_integer
from surerwalks.common import copied, places_of
from surerwalks.errors import InvalidClaim
from surerwalks.flows import flow
from surerwalks.orders import is_surer, is_surer_paper, is_worse_paper, surer_squares, worse_function
from surerwalks.ratios import ratio_of
from surerwalks.risings import is_surer_rising, is_worse_rising_paper, worse_rising
from surerwalks.rules import is_rule, taken_rows, weight_numbers
from surerwalks.spreads import guess_of, hinge, is_hinge, is_less_spread, is_splitting, splitting
from surerwalks.walks import Walk, chance_rows, closed_lot, is_alike_backwards, is_whole

WORDS = (
    ("surer", "worse"),
    ("surerrising", "worserising"),
    ("whole", "shut"),
    ("backwards", "turned"),
    ("lessspread", "morespread"),
    ("rule", "norule"),
)


def words():
    """The two words of each line, in their sequence."""
    return list(WORDS)


def _pair_of(word):
    """The word of the line that stands first, and its contrary; None of any other value."""
    if isinstance(word, str):
        for pair in WORDS:
            if word in pair:
                return pair
    return None


def is_claim(value):
    """Whether any value is a claim."""
    if not isinstance(value, tuple) or len(value) == 0:
        return False
    pair = _pair_of(value[0])
    if pair is None:
        return False
    judges = {
        "surer": _are_like_walks,
        "surerrising": _are_like_walks,
        "whole": _are_one_walk,
        "backwards": _are_one_walk,
        "lessspread": _are_guesses,
        "rule": _are_rule_parts,
    }
    judge = judges[pair[0]]
    return judge(list(value[1:]))


def _are_like_walks(parts):
    """Whether they are two whole Walks with like shares."""
    if len(parts) != 2 or not all([isinstance(part, Walk) for part in parts]):
        return False
    # Like shares are of as many places.
    return parts[0].shares() == parts[1].shares() and all([is_whole(part) for part in parts])


def _are_one_walk(parts):
    return len(parts) == 1 and isinstance(parts[0], Walk)


def _are_guesses(parts):
    return len(parts) == 2 and all([guess_of(part) is not None for part in parts])


def _are_rule_parts(parts):
    """Whether they are a proposal, weights for it, and as many lists of numbers from 0 to 1."""
    rows = chance_rows(parts[0]) if len(parts) == 3 else None
    if rows is None or weight_numbers(parts[1], len(rows)) is None:
        return False
    return taken_rows(parts[2], len(rows)) is not None


def _check_claim(claim):
    if not is_claim(claim):
        raise InvalidClaim(claim)


def is_true(claim):
    """Whether the claim is true."""
    _check_claim(claim)
    judges = {
        "surer": is_surer,
        "surerrising": is_surer_rising,
        "whole": is_whole,
        "backwards": is_alike_backwards,
        "lessspread": is_less_spread,
        "rule": is_rule,
    }
    first, parts = _pair_of(claim[0])[0], claim[1:]
    judge = judges[first]
    return judge(*parts) == (claim[0] == first)


def contrary(claim):
    """The claim with the other word of its line."""
    _check_claim(claim)
    first, second = _pair_of(claim[0])
    return tuple([second if claim[0] == first else first] + copied(list(claim[1:])))


def paper_of(claim):
    """A paper of the claim, None if it is not true or its word has none."""
    _check_claim(claim)
    makers = {
        "surer": surer_squares,
        "worse": worse_function,
        "worserising": worse_rising,
        "shut": closed_lot,
        "turned": _turned_places,
        "lessspread": splitting,
        "morespread": hinge,
        "norule": _unruled_places,
    }
    if claim[0] not in makers:
        return None
    make = makers[claim[0]]
    parts = claim[1:]
    return make(*parts)


def is_paper_of(claim, value):
    """Whether any value is a paper of the claim."""
    _check_claim(claim)
    judges = {
        "surer": is_surer_paper,
        "worse": is_worse_paper,
        "worserising": is_worse_rising_paper,
        "shut": _is_shut_lot,
        "turned": _are_turned,
        "lessspread": is_splitting,
        "morespread": is_hinge,
        "norule": _are_unruled,
    }
    if claim[0] not in judges:
        return False
    judge = judges[claim[0]]
    parts = claim[1:]
    return judge(*parts, value)


def _is_shut_lot(walk, value):
    """Whether any value is a list of places, each above the one ahead, not all, which nothing leaves."""
    lot = places_of(value, walk.places)
    if lot is None or len(lot) == 0 or len(lot) == walk.places or lot != sorted(lot):
        return False
    return all([
        chance.sign == 0 or after in lot
        for place in lot for after, chance in enumerate(walk.rows()[place])
    ])


def _turned_places(walk):
    return _unlike_places(flow(walk))


def _are_turned(walk, value):
    return _are_unlike(flow(walk), value)


def _taken_flows(proposal, weights, numbers):
    """For each two places the weight, times the chance that is proposed, times the number there."""
    return [
        [ratio_of(weight) * chance * number for chance, number in zip(row, line)]
        for weight, row, line in zip(weights, proposal, numbers)
    ]


def _unruled_places(proposal, weights, numbers):
    return _unlike_places(_taken_flows(proposal, weights, numbers))


def _are_unruled(proposal, weights, numbers, value):
    return _are_unlike(_taken_flows(proposal, weights, numbers), value)


def _unlike_places(rows):
    """The tuple of two places between which the rows tell something else there than back, None if there are none."""
    for i, row in enumerate(rows):
        for j in range(i):
            if row[j] != rows[j][i]:
                return j, i
    return None


def _are_unlike(rows, value):
    """Whether any value is a tuple of two places between which the rows tell something else there than back."""
    if not isinstance(value, tuple) or len(value) != 2:
        return False
    if not all([is_integer(place) and 0 <= place < len(rows) for place in value]):
        return False
    x, y = value
    return rows[x][y] != rows[y][x]
