"""Proposals, weights, and rules that tell with what chance a proposed place is taken."""

from surerwalks.common import numbers_of, square_of
from surerwalks.errors import InvalidProposal, InvalidTaken, InvalidWeights, UnlikePlaces, UnlikeShares
from surerwalks.ratios import Ratio
from surerwalks.walks import Walk, chance_rows, check_walk


def proposal_of(value):
    """The rows of a proposal, as Ratios; others are refused."""
    rows = chance_rows(value)
    if rows is None:
        raise InvalidProposal(value)
    return rows


def weight_numbers(value, many):
    """The weights of so many places, as Ratios, None of any other value."""
    weights = numbers_of(value, many)
    if weights is None or any([weight.sign <= 0 for weight in weights]):
        return None
    return weights


def weights_of(value, many):
    """The same; others are refused."""
    weights = weight_numbers(value, many)
    if weights is None:
        raise InvalidWeights(value)
    return weights


def shares_of(weights):
    """The weights over their sum."""
    whole = Ratio.total(weights)
    return [weight.over(whole) for weight in weights]


def _flows(rows, weights):
    """The flow proposed from each place to each one."""
    return [[share * chance for chance in row] for share, row in zip(shares_of(weights), rows)]


def _flows_of(proposal, weights):
    """The same of what was passed; what is not valid is refused."""
    rows = proposal_of(proposal)
    return _flows(rows, weights_of(weights, len(rows)))


def taken_rows(value, many):
    """So many rows of as many NUMBERS from 0 to 1, as Ratios, None of any other value."""
    taken = square_of(value, many, many)
    if taken is None:
        return None
    if any([number.sign < 0 or Ratio(1).is_below(number) for row in taken for number in row]):
        return None
    return taken


def _as_rule(value, flows):
    """The rows of a rule for the flows proposed, None of any other value."""
    many = len(flows)
    taken = taken_rows(value, many)
    if taken is None:
        return None
    alike = [flows[i][j] * taken[i][j] == flows[j][i] * taken[j][i] for i in range(many) for j in range(i)]
    return taken if all(alike) else None


def is_rule(proposal, weights, value):
    """Whether any value is a rule."""
    return _as_rule(value, _flows_of(proposal, weights)) is not None


def greatest_rule(proposal, weights):
    """The rule that takes with the flow proposed back over that there, at most 1."""
    flows = _flows_of(proposal, weights)
    return _made(flows, lambda there, back: back.over(there) if back.is_below(there) else Ratio(1))


def half_rule(proposal, weights):
    """The rule that takes with the flow proposed back over the sum of both."""
    return _made(_flows_of(proposal, weights), lambda there, back: back.over(there + back))


def _made(flows, chance):
    """The rule that takes by the flows there and back; 0 where one stays, and where nothing is proposed."""
    return [
        [
            chance(there, flows[j][i]) if i != j and there.sign > 0 else Ratio(0)
            for j, there in enumerate(row)
        ]
        for i, row in enumerate(flows)
    ]


def walk_by(proposal, weights, taken):
    """The Walk by the rule."""
    rows = proposal_of(proposal)
    numbers = weights_of(weights, len(rows))
    rule = _as_rule(taken, _flows(rows, numbers))
    if rule is None:
        raise InvalidTaken(taken)
    return _walk_by(rows, shares_of(numbers), rule)


def _walk_by(rows, shares, rule):
    made = []
    for i, (row, line) in enumerate(zip(rows, rule)):
        steps = [chance * number for chance, number in zip(row, line)]
        # What is not taken stays.
        steps[i] = steps[i] + 1 - Ratio.total(steps)
        made.append(steps)
    return Walk(made, shares)


def rule_of(proposal, weights, walk):
    """The rule that makes the walk, with 0 where one stays and where nothing is proposed; None if none makes it."""
    rows = proposal_of(proposal)
    numbers = weights_of(weights, len(rows))
    check_walk(walk)
    if walk.places != len(rows):
        raise UnlikePlaces()
    shares = shares_of(numbers)
    if walk.shares() != shares:
        raise UnlikeShares()
    # No other numbers than these quotients can make it; whether these do is seen by making it.
    told = [
        [
            step.over(chance) if i != j and chance.sign > 0 else Ratio(0)
            for j, (step, chance) in enumerate(zip(line, row))
        ]
        for i, (line, row) in enumerate(zip(walk.rows(), rows))
    ]
    rule = _as_rule(told, _flows(rows, numbers))
    if rule is None or _walk_by(rows, shares, rule) != walk:
        return None
    return rule
