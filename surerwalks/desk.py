"""A desk: things under names, claims under labels, deeds that can be taken back, papers of claims."""

from surerwalks.claims import contrary, is_claim, is_paper_of, is_true
from surerwalks.commands import is_deed, made, parsed, parsed_claim, reckoned, shown
from surerwalks.common import copied, is_list
from surerwalks.errors import CommandFailed, InvalidClaim, InvalidCommand, InvalidDeeds, InvalidPaper, LabelTaken
from surerwalks.errors import LimitError, MissingError, NameTaken, NothingToRedo, NothingToUndo, StateError, TooMany
from surerwalks.errors import UnknownLabel, UnknownName, WalkError

MOST_NAMES = 12
MOST_LABELS = 12
MOST_DEEDS = 300
LISTED = {"guesses": "guess", "functions": "function"}
NAMED = ("walk", "proposal", "guess", "function", "grid", "name", "other")
TOLD = ("rows", "numbers", "number", "pairs", "counts", "count", "way")


class Board:
    """Things, each with its sort, claims in their words, and the states of these. It never changes."""

    def __init__(self, things, claims, states):
        self.things = things
        self.claims = claims
        self.states = states


class Moment:
    """All of a desk: its board, the deeds with the boards they came from, or led to, and papers. It never changes."""

    def __init__(self, board, done, undone, papers):
        self.board = board
        self.done = done
        self.undone = undone
        self.papers = papers


class Desk:
    """Things and claims that deeds change."""

    def __init__(self):
        self._now = Moment(Board({}, {}, {}), (), (), {})

    @property
    def names(self):
        return sorted(list(self._now.board.things))

    @property
    def labels(self):
        return sorted(list(self._now.board.claims))

    def __len__(self):
        return len(self._now.done)

    def __getitem__(self, name):
        things = self._now.board.things
        if not isinstance(name, str) or name not in things:
            raise UnknownName(name)
        return copied(things[name][1])

    def __iter__(self):
        raise TypeError("a desk is not iterated over")

    def __contains__(self, name):
        return isinstance(name, str) and name in self._now.board.things

    def __call__(self, command):
        return self.do(command)

    def claim_of(self, label):
        """The claim with what is kept now, None while its state is gone."""
        return _claim_of(self._now.board.things, self._words_of(label))

    def _words_of(self, label):
        """The words of a claim; a label that is not noted is refused."""
        claims = self._now.board.claims
        if not isinstance(label, str) or label not in claims:
            raise UnknownLabel(label)
        return claims[label]

    def do(self, command):
        """Does the command; the answer."""
        told = parsed(command)
        if told is None:
            raise InvalidCommand(command)
        word, parts = told
        self._now, answer = _stepped(self._now, command, word, parts)
        return answer

    def do_all(self, *commands):
        """Does all of these, or none; the answers."""
        trial = self.copy()
        answers = []
        for at, command in enumerate(commands):
            try:
                answers.append(trial.do(command))
            except (WalkError, MissingError, StateError, LimitError) as fault:
                raise CommandFailed(at) from fault
        self._now = trial._now
        return answers

    def attempt(self, *commands):
        """The answers, as if all of these were done."""
        trial = self.copy()
        return trial.do_all(*commands)

    def attach(self, label, paper):
        """Keeps a paper of the label's claim, or of its contrary."""
        words = self._words_of(label)
        claim = _claim_of(self._now.board.things, words)
        if claim is None:
            raise InvalidPaper(paper)
        against = not is_paper_of(claim, paper)
        if against and not is_paper_of(contrary(claim), paper):
            raise InvalidPaper(paper)
        now = self._now
        papers = {**now.papers, label: (words, against, copied(paper))}
        self._now = Moment(now.board, now.done, now.undone, papers)

    def fits(self, label):
        """Whether a paper that is kept with the label is still one, as things are now."""
        words = self._words_of(label)
        claim = _claim_of(self._now.board.things, words)
        if claim is None or label not in self._now.papers:
            return False
        told, against, paper = self._now.papers[label]
        return told == words and is_paper_of(contrary(claim) if against else claim, paper)

    def lines(self):
        """The lines of the deeds that are not taken back."""
        return [line for line, _ in self._now.done]

    def copy(self):
        """A desk that goes on by itself."""
        other = Desk()
        other._now = self._now
        return other

    @classmethod
    def again(cls, lines):
        """A desk that has done these deeds."""
        if not is_list(lines):
            raise InvalidDeeds(None)
        for at, line in enumerate(lines):
            if not is_deed(line):
                raise InvalidDeeds(at)
        desk = cls()
        desk.do_all(*lines)
        return desk


class Trial:
    """A block behind which all of a desk is as it was ahead."""

    def __init__(self, desk):
        self._desk = desk
        self._kept = None

    def __enter__(self):
        self._kept = self._desk._now
        return self._desk

    def __exit__(self, kind, value, trace):
        desk = self._desk
        desk._now = self._kept


def tried(desk, action):
    """What the action returns for the desk, which is then as it was ahead."""
    with Trial(desk) as held:
        return action(held)


def _stepped(now, command, word, parts):
    """The moment behind the command, and the answer."""
    board = now.board
    _check_free(board, parts)
    handed = _handed(board.things, parts)
    _check_labels(board, parts)
    if word == "undo":
        if not now.done:
            raise NothingToUndo()
        line, before = now.done[-1]
        return Moment(before, now.done[:-1], now.undone + ((line, board),), now.papers), line
    if word == "redo":
        if not now.undone:
            raise NothingToRedo()
        line, later = now.undone[-1]
        return Moment(later, now.done + ((line, board),), now.undone[:-1], now.papers), line
    if not is_deed(command):
        return now, _answer(board, word, parts, handed)
    later = _board_behind(board, word, parts, handed)
    if len(now.done) >= MOST_DEEDS:
        raise TooMany("deeds", MOST_DEEDS)
    return Moment(later, now.done + ((command, board),), (), now.papers), _changes(board, later)


def _check_free(board, parts):
    """Refuses names and labels that are taken already."""
    for kind, told in parts:
        if kind == "new" and told in board.things:
            raise NameTaken(told)
        if kind == "newlabel" and told in board.claims:
            raise LabelTaken(told)


def _check_labels(board, parts):
    """Refuses labels that are not noted."""
    for kind, told in parts:
        if kind == "label" and told not in board.claims:
            raise UnknownLabel(told)


def _handed(things, parts):
    """What the parts hand over: of names copies of the things under them."""
    handed, sort = [], ""
    for kind, told in parts:
        if kind in LISTED:
            handed.append([_value(things, name, LISTED[kind]) for name in told])
        elif kind in NAMED:
            handed.append(_value(things, told, sort if kind == "other" else kind))
            sort = things[told][0]
        elif kind in TOLD:
            handed.append(told)
    return handed


def _value(things, name, wanted):
    """A copy of what is kept under the name; refused if that is nothing, or of another sort."""
    if name not in things or wanted not in ("name", things[name][0]):
        raise UnknownName(name)
    return copied(things[name][1])


def _board_behind(board, word, parts, handed):
    """The board behind the deed."""
    target = parts[0][1]
    if word == "claim":
        return _noted(board, target, parts[1][1])
    if word == "forget":
        claims = {label: words for label, words in board.claims.items() if label != target}
        return Board(board.things, claims, {label: board.states[label] for label in claims})
    if word == "drop":
        return _restated(board, {name: thing for name, thing in board.things.items() if name != target}, target)
    thing = board.things[parts[1][1]] if word == "copy" else made(word, handed)
    things = {**board.things, target: thing}
    if len(things) > MOST_NAMES:
        raise TooMany("names", MOST_NAMES)
    return _restated(board, things, target)


def _restated(board, things, name):
    """The board with these things, which are others under this name."""
    states = {
        label: _state(things, words) if name in words[1:] else board.states[label]
        for label, words in board.claims.items()
    }
    return Board(things, board.claims, states)


def _noted(board, label, words):
    claim = _told_claim(board.things, words)
    if not is_claim(claim):
        raise InvalidClaim(claim)
    if len(board.claims) >= MOST_LABELS:
        raise TooMany("labels", MOST_LABELS)
    states = {**board.states, label: _state(board.things, words)}
    return Board(board.things, {**board.claims, label: words}, states)


def _told_claim(things, words):
    """The tuple that the words tell, a claim or not."""
    return tuple([words[0]] + _handed(things, parsed_claim(words)))


def _claim_of(things, words):
    """The claim that the words tell, None if what is kept doesn't make one."""
    try:
        claim = _told_claim(things, words)
    except UnknownName:
        return None
    return claim if is_claim(claim) else None


def _state(things, words):
    claim = _claim_of(things, words)
    if claim is None:
        return "gone"
    return "true" if is_true(claim) else "false"


def _changes(board, later):
    """Which states are other ones than ahead of the deed."""
    return _told_states({
        label: state for label, state in later.states.items() if board.states.get(label) != state
    })


def _told_states(states):
    return ", ".join([f"{label} {states[label]}" for label in sorted(list(states))]) or "-"


def _answer(board, word, parts, handed):
    """The answer to a command that is no deed."""
    if word == "states":
        return _told_states(board.states)
    if word == "names":
        return " ".join(sorted(list(board.things))) or "-"
    if word == "state":
        return board.states[parts[0][1]]
    if word == "claimed":
        return " ".join(board.claims[parts[0][1]])
    if word == "show":
        sort, value = board.things[parts[0][1]]
        return shown(sort, value)
    if word == "same":
        return "yes" if handed[0] == handed[1] else "no"
    return reckoned(word, handed)
