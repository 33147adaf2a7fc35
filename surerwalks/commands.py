"""Commands of a desk: what their words tell, and what those make and answer that need nothing else."""

from surerwalks.common import count_in, number_in
from surerwalks.controls import best_error
from surerwalks.flows import flow, room_of_ring, with_ring
from surerwalks.guesses import guessed_table
from surerwalks.meets import meeting_means
from surerwalks.parts import by_lot, given_means, scan, seen
from surerwalks.rules import greatest_rule, half_rule, walk_by
from surerwalks.singles import among_others, fresh, roots, single
from surerwalks.strays import after, error, error_table, mean, spread
from surerwalks.tours import tour_means
from surerwalks.turns import turn_table
from surerwalks.walks import Walk, backwards, lazy, mixed, power, renamed, then, walk_of

LETTERS = "abcdefghijklmnopqrstuvwxyz"
NAME_SIGNS = "abcdefghijklmnopqrstuvwxyz0123456789"
MOST_SIGNS = 8
MOST_COUNT_DIGITS = 30
MOST_NUMBER_DIGITS = 6
MOST_PARTS = 60
MOST_GUESSES = 6
MOST_FUNCTIONS = 3

# What stands behind each word. A part of the kind `other` is a name of the sort of the thing ahead of it.
DEEDS = {
    "walk": ("new", "rows", "numbers"),
    "keep": ("new", "rows"),
    "proposal": ("new", "rows"),
    "guess": ("new", "pairs"),
    "function": ("new", "numbers"),
    "grid": ("new", "rows"),
    "greatest": ("new", "proposal", "numbers"),
    "half": ("new", "proposal", "numbers"),
    "by": ("new", "proposal", "numbers", "rows"),
    "single": ("new", "numbers", "numbers"),
    "fresh": ("new", "numbers"),
    "among": ("new", "numbers"),
    "then": ("new", "walk", "other"),
    "mixed": ("new", "walk", "other", "number"),
    "scan": ("new", "grid"),
    "lot": ("new", "grid"),
    "seen": ("new", "grid"),
    "lazy": ("walk", "number"),
    "turn": ("walk",),
    "power": ("walk", "count"),
    "ring": ("walk", "counts", "number"),
    "rename": ("walk", "counts"),
    "copy": ("new", "name"),
    "drop": ("name",),
    "forget": ("label",),
}
CLAIMS = {
    "surer": ("walk", "other"),
    "worse": ("walk", "other"),
    "surerrising": ("walk", "other"),
    "worserising": ("walk", "other"),
    "whole": ("walk",),
    "shut": ("walk",),
    "backwards": ("walk",),
    "turned": ("walk",),
    "lessspread": ("guess", "other"),
    "morespread": ("guess", "other"),
    "rule": ("proposal", "numbers", "rows"),
    "norule": ("proposal", "numbers", "rows"),
}
OTHERS = {
    "undo": (),
    "redo": (),
    "state": ("label",),
    "states": (),
    "claimed": ("label",),
    "names": (),
    "show": ("name",),
    "same": ("name", "other"),
    "mean": ("walk", "function"),
    "spread": ("walk", "function"),
    "error": ("walk", "function"),
    "table": ("walk",),
    "flow": ("walk",),
    "turns": ("walk", "other"),
    "after": ("walk", "numbers", "count", "function"),
    "tours": ("walk", "count", "function"),
    "meets": ("walk", "numbers", "function", "way"),
    "room": ("walk", "counts"),
    "best": ("walk", "function", "functions"),
    "given": ("grid", "function"),
    "roots": ("numbers", "numbers"),
    "guessed": ("proposal", "numbers", "guesses"),
}


def is_name(value):
    """Whether any value is a name."""
    if not isinstance(value, str) or len(value) < 1 or len(value) > MOST_SIGNS:
        return False
    return value[0] in LETTERS and all([sign in NAME_SIGNS for sign in value])


def is_command(value):
    """Whether any value is a command by its words alone."""
    return parsed(value) is not None


def is_deed(value):
    """Whether any value is a deed."""
    told = parsed(value)
    return told is not None and told[0] not in OTHERS


def parsed(value):
    """The word of a command and its parts, tuples of their kind and what they tell; None of any other value.

    Of a claim the parts are its label and its words, as they stand.
    """
    if not isinstance(value, str):
        return None
    words = value.split(" ")
    if words[0] == "claim":
        if len(words) < 3 or not is_name(words[1]) or parsed_claim(words[2:]) is None:
            return None
        return "claim", [("newlabel", words[1]), ("words", words[2:])]
    parts = _parts(DEEDS.get(words[0], OTHERS.get(words[0])), words[1:])
    return None if parts is None else (words[0], parts)


def parsed_claim(words):
    """The parts of a claim that is told by these words, None if none is."""
    return _parts(CLAIMS.get(words[0]), words[1:])


def _parts(kinds, words):
    """The tuples of kinds and what the words tell, None if they don't go with the kinds."""
    if kinds is None or len(kinds) != len(words):
        return None
    parts = [(kind, _told(kind, word)) for kind, word in zip(kinds, words)]
    return None if any([told is None for kind, told in parts]) else parts


def _told(kind, word):
    """What the word tells as this kind, None if nothing."""
    readers = {
        "rows": _rows,
        "numbers": _numbers,
        "number": _number,
        "pairs": _pairs,
        "counts": _counts,
        "count": _count,
        "way": _way,
        "guesses": _guesses,
        "functions": _functions,
    }
    reader = readers.get(kind, _name)
    return reader(word)


def _name(word):
    return word if is_name(word) else None


def _way(word):
    return word if word in ("apart", "near") else None


def _count(word):
    return count_in(word) if len(word) <= MOST_COUNT_DIGITS else None


def _number(word):
    top, _, bottom = word.partition("/")
    if len(top.lstrip("-")) > MOST_NUMBER_DIGITS or len(bottom) > MOST_NUMBER_DIGITS:
        return None
    return number_in(word)


def _listed(parts, reader, most):
    """The list of what the parts tell, None if one tells nothing or there are too many."""
    found = [reader(part) for part in parts]
    return None if len(found) > most or any([one is None for one in found]) else found


def _counts(word):
    return [] if word == "-" else _listed(word.split(","), _count, MOST_PARTS)


def _numbers(word):
    return [] if word == "-" else _listed(word.split(","), _number, MOST_PARTS)


def _rows(word):
    return _listed(word.split(";"), _numbers, MOST_PARTS)


def _pairs(word):
    return [] if word == "none" else _listed(word.split(";"), _pair, MOST_PARTS)


def _pair(word):
    parts = _listed(word.split(":"), _number, 2)
    return tuple(parts) if parts is not None and len(parts) == 2 else None


def _guesses(word):
    return _listed(word.split(","), _name, MOST_GUESSES)


def _functions(word):
    return _listed(word.split(","), _name, MOST_FUNCTIONS)


def made(word, handed):
    """The thing that the deed makes: a tuple of its sort and itself."""
    if word in ("proposal", "guess", "function", "grid"):
        return word, handed[0]
    makers = {
        "walk": _walk,
        "keep": walk_of,
        "greatest": _greatest,
        "half": _half,
        "by": walk_by,
        "single": single,
        "fresh": fresh,
        "among": among_others,
        "then": then,
        "mixed": mixed,
        "scan": scan,
        "lot": by_lot,
        "seen": seen,
        "lazy": lazy,
        "turn": backwards,
        "power": power,
        "ring": with_ring,
        "rename": renamed,
    }
    make = makers[word]
    return "walk", make(*handed)


def _walk(rows, shares):
    return Walk(rows, shares)


def _greatest(proposal, weights):
    return walk_by(proposal, weights, greatest_rule(proposal, weights))


def _half(proposal, weights):
    return walk_by(proposal, weights, half_rule(proposal, weights))


def reckoned(word, handed):
    """The answer that a function tells: a number, numbers, or a table."""
    numbers = {"mean": mean, "spread": spread, "error": error, "after": after, "best": best_error}
    lists = {"tours": tour_means, "meets": meeting_means, "room": room_of_ring, "given": given_means, "roots": roots}
    tables = {"table": error_table, "flow": flow, "turns": turn_table, "guessed": guessed_table}
    asked = {**numbers, **lists, **tables}
    ask = asked[word]
    found = ask(*handed)
    if word in numbers:
        return str(found)
    return _told_numbers(found) if word in lists else _told_rows(found)


def shown(sort, value):
    """The thing as it is written."""
    if sort == "walk":
        return _told_rows(value.rows()) + " " + _told_numbers(value.shares())
    if sort == "guess":
        return ";".join([f"{chance}:{worth}" for chance, worth in value]) or "none"
    return _told_numbers(value) if sort == "function" else _told_rows(value)


def _told_rows(rows):
    return ";".join([_told_numbers(row) for row in rows])


def _told_numbers(numbers):
    return ",".join([str(number) for number in numbers]) or "-"
