"""A desk: requests, put to a Board one behind another, and the reply to each one."""

from namesalone.alike import is_readable
from namesalone.board import Board
from namesalone.errors import BadLine, Impossible, NoName, NothingDone
from namesalone.fewest import can_be_done, fewest_moves
from namesalone.moves import what_is_at, where_is
from namesalone.plain import is_name
from namesalone.rules import has_rule
from namesalone.texts import sight_text

DONE = "done"
NOTHING = "-"


def _move(board, names):
    """Carry the box at the first one of the names to the second one."""
    board.carry(names[0], names[1])
    return DONE


def _throw(board, names):
    """Throw the box at the place away."""
    board.carry(names[0])
    return DONE


def _begin(board, names):
    """Bring all boxes back to where they were at first."""
    board.begin()
    return DONE


def _undo(board, names):
    """Take the last deed back."""
    board.undo()
    return DONE


def _sight(board, names):
    """Tell which places are full."""
    return sight_text(board.sight())


def _where(board, names):
    """Tell where the box is."""
    place = where_is(board.job(), board.stand(), names[0])
    return NOTHING if place is None else place


def _who(board, names):
    """Tell which box is at the place."""
    box = what_is_at(board.job(), board.stand(), names[0])
    return NOTHING if box is None else box


def _many(board, names):
    """Tell how many MOVES led to the STAND."""
    return str(len(board))


def _seen(board, names):
    """Tell the first moment that looks as it looks now."""
    return str(board.seen())


def _yes_or_no(held):
    """Return the reply that tells whether something holds."""
    return "yes" if held else "no"


def _again(board, names):
    """Tell whether it looked so before."""
    return _yes_or_no(board.seen() < len(board))


def _ended(board, names):
    """Tell whether each box is where it goes."""
    return _yes_or_no(board.is_done())


def _readable(board, names):
    """Tell whether no two moments look alike."""
    return _yes_or_no(is_readable(board.job(), board.moves()))


def _left(board, names):
    """Tell how many MOVES are needed at the least."""
    left = board.left()
    return str(fewest_moves(left)) if can_be_done(left) else NOTHING


def _rule(board, names):
    """Tell whether there is a right RULE for what is left."""
    return _yes_or_no(has_rule(board.left()))


ANSWERS = {"move": _move, "throw": _throw, "begin": _begin, "undo": _undo, "sight": _sight, "where": _where,
           "who": _who, "many": _many, "seen": _seen, "again": _again, "ended": _ended, "readable": _readable,
           "left": _left, "rule": _rule}
# How many NAMEs stand behind the first word of a request; 0 where it is not told here.
NAMES_BEHIND = {"move": 2, "throw": 1, "where": 1, "who": 1}


def is_request(thing):
    """Tell whether thing is a request."""
    if not isinstance(thing, str):
        return False
    word, *names = thing.split(" ")
    return word in ANSWERS and len(names) == NAMES_BEHIND.get(word, 0) and all([is_name(name) for name in names])


def replies(job, text):
    """Return the list of the replies to the lines of the text."""
    lines = text.split("\n") if text else []
    for number, line in enumerate(lines):
        if not is_request(line):
            raise BadLine(number)
    board, found = Board(job), []
    for line in lines:
        found.append(_reply(board, line))
    return found


def _reply(board, line):
    """Put the request to the Board and return the reply."""
    word, *names = line.split(" ")
    answer = ANSWERS[word]
    try:
        return answer(board, names)
    except Impossible:
        return "refused Impossible"
    except NothingDone:
        return "refused NothingDone"
    except NoName:
        return "refused NoName"
