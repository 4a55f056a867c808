"""Boards: a JOB under way, with the deeds that can be taken back."""

from namesalone.alike import moments_of
from namesalone.errors import NothingDone
from namesalone.moves import after, first_stand, is_end, left_job, sight_of
from namesalone.plain import as_tuples
from namesalone.rules import move_at


class Board:
    """A JOB under way: a STAND, and the MOVES that led to it."""

    def __init__(self, job):
        self._job = as_tuples(job)
        self._stand = first_stand(job)
        self._moves = ()
        # What there was ahead of each deed: the pair of the STAND and the MOVES.
        self._past = []

    def __eq__(self, other):
        return isinstance(other, Board) and self._job == other._job and self._stand == other._stand

    def __len__(self):
        return len(self._moves)

    def job(self):
        """Return the JOB."""
        return self._job

    def stand(self):
        """Return the STAND that there is now."""
        return self._stand

    def moves(self):
        """Return the MOVES that led to the STAND."""
        return self._moves

    def sight(self):
        """Return the SIGHT that there is now."""
        return sight_of(self._stand)

    def is_done(self):
        """Tell whether each box is where it goes."""
        return is_end(self._job, self._stand)

    def left(self):
        """Return the JOB that is left."""
        return left_job(self._job, self._stand)

    def seen(self):
        """Return the number of the first moment that has the SIGHT that there is now."""
        return moments_of(self._job, self._moves, self.sight())[0]

    def carry(self, place, other=None):
        """Make the MOVE from place to other, None being away."""
        move = (place, other)
        self._change(after(self._job, self._stand, move), self._moves + (move,))

    def step(self, rule):
        """Make the MOVE that the RULE tells for the SIGHT that there is now, and return it; None if there is none."""
        move = move_at(rule, self.sight())
        if move is not None:
            place, other = move
            self.carry(place, other)
        return move

    def begin(self):
        """Bring all boxes back to where they were at first."""
        self._change(first_stand(self._job), ())

    def _change(self, stand, moves):
        """Do a deed, which leads to this STAND and these MOVES."""
        self._past.append((self._stand, self._moves))
        self._stand, self._moves = stand, moves

    def undo(self):
        """Take back the last deed that was not taken back."""
        if not self._past:
            raise NothingDone()
        self._stand, self._moves = self._past.pop()

    def deeds(self):
        """Return how many deeds undo can take back."""
        return len(self._past)

    def twin(self):
        """Return a new Board that is as this one is and shares nothing with it."""
        other = Board(self._job)
        other._stand, other._moves, other._past = self._stand, self._moves, list(self._past)
        return other
