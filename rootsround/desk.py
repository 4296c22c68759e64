"""A desk on which things are kept under names, and claims about them noted under labels."""

from rootsround.answers import answer_on
from rootsround.basics import copied
from rootsround.boards import GONE, Board, behind, changes, told_states, values_of
from rootsround.claims import contrary, is_paper_of
from rootsround.commands import is_deed, is_first_word, parted_command
from rootsround.errors import (
    CommandFailed, InvalidCommand, InvalidLines, InvalidPaper, LimitError, MissingError, NothingToRedo, NothingToUndo,
    RootError, StateError, TooMany, UnknownLabel, UnknownName)

MOST_DEEDS = 300


def wanted_note(board, label):
    """The words of the claim that is noted under the label."""
    if not isinstance(label, str) or label not in board.notes:
        raise UnknownLabel(label)
    return board.notes[label]


def is_paper_now(claim, is_contrary, paper):
    """Whether the value is a paper of the claim or of its contrary; not where a limit stops it."""
    try:
        return is_paper_of(contrary(claim) if is_contrary else claim, paper)
    except LimitError:
        return False


class Desk:
    """What is kept and noted, and the deeds that made it so.

    All of it is one tuple, whose parts are never changed, but replaced: the
    Board, the deeds as tuples of their line and the Board ahead of them, those
    that were taken back with the Board behind them, and papers by labels, as
    tuples of the words of the claim, whether it is its contrary's, and the paper.
    """

    def __init__(self):
        self._now = (Board({}, {}, {}), [], [], {})

    @property
    def names(self):
        """The names, sorted."""
        return sorted(list(self._now[0].things))

    @property
    def labels(self):
        """The labels, sorted."""
        return sorted(list(self._now[0].notes))

    def __len__(self):
        return len(self._now[1])

    def __getitem__(self, at):
        """What is kept under a name."""
        things = self._now[0].things
        if not isinstance(at, str) or at not in things:
            raise UnknownName(at)
        return copied(things[at])

    def __contains__(self, x):
        return isinstance(x, str) and x in self._now[0].things

    def __iter__(self):
        raise TypeError("a Desk is not iterated over")

    def __call__(self, command):
        return self.do(command)

    def claim_of(self, label):
        """The claim of a label, with what is kept now; None while its state is gone."""
        board = self._now[0]
        wanted_note(board, label)
        claim, state = board.standings[label]
        return None if state == GONE else copied(claim)

    def do(self, command):
        """The answer of a command, which is done."""
        told_parts = parted_command(command)
        if told_parts is None:
            raise InvalidCommand(command)
        words, kinds = told_parts
        values = values_of(self._now[0], words[1:], kinds)
        if is_first_word(words[0]):
            return self._done(command, words, values)
        if words[0] == "undo":
            return self._taken_back()
        if words[0] == "redo":
            return self._done_again()
        return self._answered(words, values)

    def _done(self, command, words, values):
        """The answer of a deed, which is done."""
        board, done, _, papers = self._now
        after = behind(board, words, values)
        if len(done) >= MOST_DEEDS:
            raise TooMany("deeds", MOST_DEEDS)
        self._now = (after, done + [(command, board)], [], papers)
        return changes(board, after)

    def _taken_back(self):
        """The line of the last deed, which is taken back."""
        board, done, undone, papers = self._now
        if not done:
            raise NothingToUndo()
        line, before = done[-1]
        self._now = (before, done[:-1], undone + [(line, board)], papers)
        return line

    def _done_again(self):
        """The line of the last deed that was taken back, which is done again."""
        board, done, undone, papers = self._now
        if not undone:
            raise NothingToRedo()
        line, after = undone[-1]
        self._now = (after, done + [(line, board)], undone[:-1], papers)
        return line

    def _answered(self, words, values):
        """The answer of a command that changes nothing."""
        board = self._now[0]
        if words[0] == "state":
            return board.standings[words[1]][1]
        if words[0] == "states":
            return told_states(board, list(board.notes))
        if words[0] == "claimed":
            return " ".join(board.notes[words[1]])
        if words[0] == "names":
            return " ".join(self.names) if board.things else "-"
        return answer_on(words[0], values)

    def do_all(self, *commands):
        """The answers of the commands; if one fails, none has an effect."""
        held = self._now
        answers = []
        for at, command in enumerate(commands):
            try:
                answers.append(self.do(command))
            except (RootError, MissingError, StateError, LimitError) as error:
                self._now = held
                raise CommandFailed(at) from error
        return answers

    def attempt(self, *commands):
        """The answers of the commands, none of which has an effect."""
        held = self._now
        answers = self.do_all(*commands)
        self._now = held
        return answers

    def attach(self, label, paper):
        """Keeps a paper of the label's claim, or of its contrary, with the label."""
        board, done, undone, papers = self._now
        note = wanted_note(board, label)
        claim = self.claim_of(label)
        if claim is None:
            raise InvalidPaper(paper)
        sides = [side for side in (False, True) if is_paper_now(claim, side, paper)]
        if not sides:
            raise InvalidPaper(paper)
        self._now = (board, done, undone, {**papers, label: (note, sides[0], copied(paper))})

    def fits(self, label):
        """Whether a paper is kept with the label for its words, and is still one of what it was kept for."""
        board, papers = self._now[0], self._now[3]
        note = wanted_note(board, label)
        claim = self.claim_of(label)
        if claim is None or label not in papers:
            return False
        words, side, paper = papers[label]
        return words == note and is_paper_now(claim, side, paper)

    def lines(self):
        """The lines of the deeds that are not taken back."""
        return [line for line, _ in self._now[1]]

    def copy(self):
        """A desk with the same things, labels, papers and deeds, that goes on by itself."""
        twin = Desk()
        twin._now = self._now
        return twin

    @classmethod
    def again(cls, lines):
        """A desk that has done the deeds of these lines."""
        if not isinstance(lines, (list, tuple)):
            raise InvalidLines(None)
        for at, line in enumerate(lines):
            if not is_deed(line):
                raise InvalidLines(at)
        desk = cls()
        desk.do_all(*lines)
        return desk


class Trial:
    """A block of rows behind which all of a desk is as it was ahead of it."""

    def __init__(self, desk):
        self._desk = desk
        self._held = None

    def __enter__(self):
        self._held = self._desk._now
        return self._desk

    def __exit__(self, kind, value, trace):
        self._desk._now = self._held


def tried(desk, action):
    """What the action returns for the desk, all of which is as before behind it."""
    with Trial(desk) as held:
        return action(held)
