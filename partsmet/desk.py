"""The desk: things under names and claims under labels, with deeds that can be taken back and done again."""

from partsmet.answers import answer
from partsmet.basics import copied, is_list
from partsmet.claims import contrary, is_paper_of
from partsmet.commands import is_command, is_deed, is_deed_word, is_name, uses_of
from partsmet.deeds import found_things, things_behind
from partsmet.errors import (
    CommandFailed,
    InvalidCommand,
    InvalidDeeds,
    InvalidPaper,
    LimitError,
    MissingError,
    NothingToRedo,
    NothingToUndo,
    PartError,
    StateError,
    TooMany,
    UnknownLabel,
    UnknownName,
)
from partsmet.labels import changes, claim_now, claims_behind

MOST_DEEDS = 300


class Desk:
    """Kinds, states, logs and views under names, claims about them under labels."""

    def __init__(self):
        # None of these is changed where it stands: a change puts a new one in its place. So to keep the old ones is
        # enough to bring all back.
        self.things = {}
        self.claims = {}
        # Under each label the words of its claim when the paper came, the word that the paper shows, and the paper.
        self.papers = {}
        # Deeds with the things and claims ahead of them; deeds taken back with those behind them, the next one last.
        self.past = []
        self.future = []

    @property
    def names(self):
        """The sorted list of the names under which something is kept."""
        return sorted(list(self.things))

    @property
    def labels(self):
        """The sorted list of the labels under which a claim is noted."""
        return sorted(list(self.claims))

    def __len__(self):
        """How many deeds can be taken back."""
        return len(self.past)

    def __contains__(self, value):
        """Whether the value is a name under which something is kept."""
        return is_name(value) and value in self.things

    def __getitem__(self, name):
        """What is kept under the name."""
        if not is_name(name) or name not in self.things:
            raise UnknownName(name)
        return copied(self.things[name][1])

    def __iter__(self):
        raise TypeError("a desk is not iterated over")

    def __call__(self, command):
        """The answer to the command, as do tells it."""
        return self.do(command)

    def claim_of(self, label):
        """The claim under the label with what is kept now; None while its state is gone."""
        self.check_label(label)
        return claim_now(self.things, self.claims[label])

    def do(self, command):
        """The answer to the command, which is carried out."""
        if not is_command(command):
            raise InvalidCommand(command)
        words = command.split(" ")
        found = found_things(self.things, self.claims, uses_of(words))
        if is_deed_word(words[0]):
            return self.do_deed(command, words, found)
        if words[0] == "undo":
            return self.take_back()
        if words[0] == "redo":
            return self.do_again()
        return answer(self.things, self.claims, words, found)

    def do_all(self, *commands):
        """The answers to the commands, which are carried out together or not at all."""
        ahead = self.all_kept()
        answers = []
        for position, command in enumerate(commands):
            try:
                answers.append(self.do(command))
            except (PartError, MissingError, StateError, LimitError) as error:
                self.put_all(ahead)
                raise CommandFailed(position) from error
        return answers

    def attempt(self, *commands):
        """The answers that do_all would give; nothing is kept of what the commands do."""
        with Trial(self):
            return self.do_all(*commands)

    def attach(self, label, paper):
        """Keep with the label a paper of its claim or of the contrary."""
        claim = self.claim_of(label)
        if claim is None:
            raise InvalidPaper(paper)
        shown = [each[0] for each in (claim, contrary(claim)) if is_paper_of(each, paper)]
        if len(shown) == 0:
            raise InvalidPaper(paper)
        self.papers = {**self.papers, label: (self.claims[label], shown[0], copied(paper))}

    def fits(self, label):
        """Whether a paper was attached for the words of the label's claim, and still shows what it was kept for."""
        claim = self.claim_of(label)
        if claim is None or label not in self.papers:
            return False
        words, shown, paper = self.papers[label]
        return words == self.claims[label] and is_paper_of((shown,) + claim[1:], paper)

    def lines(self):
        """The lines of the deeds that are not taken back."""
        return [line for line, _ in self.past]

    def copy(self):
        """A desk with all that is kept, which goes on by itself."""
        other = Desk()
        other.put_all(self.all_kept())
        return other

    @classmethod
    def again(cls, lines):
        """A desk that has done the deeds of these lines."""
        if not is_list(lines):
            raise InvalidDeeds(None)
        for position, line in enumerate(lines):
            if not is_deed(line):
                raise InvalidDeeds(position)
        desk = cls()
        desk.do_all(*lines)
        return desk

    # What follows serves the methods above.

    def check_label(self, value):
        """UnknownLabel unless any value is a label under which a claim is noted."""
        if not is_name(value) or value not in self.claims:
            raise UnknownLabel(value)

    def all_kept(self):
        """All that the desk keeps."""
        return (self.things, self.claims, self.papers, self.past, self.future)

    def put_all(self, kept):
        """Keep what that tells in the place of all."""
        self.things, self.claims, self.papers, self.past, self.future = kept

    def do_deed(self, line, words, found):
        """Carry out the deed; the answer is how it changes the states of labels."""
        ahead = (self.things, self.claims)
        behind = (things_behind(self.things, words, found), claims_behind(self.things, self.claims, words))
        if len(self.past) == MOST_DEEDS:
            raise TooMany("deeds", MOST_DEEDS)
        told = changes(ahead, behind)
        self.things, self.claims = behind
        self.past = self.past + [(line, ahead)]
        self.future = []
        return told

    def take_back(self):
        """Take the last deed back; its line is told."""
        if len(self.past) == 0:
            raise NothingToUndo()
        line, ahead = self.past[-1]
        self.future = self.future + [(line, (self.things, self.claims))]
        self.past = self.past[:-1]
        self.things, self.claims = ahead
        return line

    def do_again(self):
        """Do again the deed that was taken back last; its line is told."""
        if len(self.future) == 0:
            raise NothingToRedo()
        line, behind = self.future[-1]
        self.past = self.past + [(line, (self.things, self.claims))]
        self.future = self.future[:-1]
        self.things, self.claims = behind
        return line


class Trial:
    """A block behind which all of the desk is as it was ahead of it."""

    def __init__(self, desk):
        self.desk = desk

    def __enter__(self):
        self.things, self.claims, self.papers, self.past, self.future = self.desk.all_kept()
        return self.desk

    def __exit__(self, kind, value, trace):
        desk = self.desk
        desk.things = self.things
        desk.claims = self.claims
        desk.papers = self.papers
        desk.past = self.past
        desk.future = self.future


def tried(desk, action):
    """What the action returns for the desk; all of the desk is then as it was ahead."""
    with Trial(desk) as held:
        return action(held)
