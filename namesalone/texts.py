"""Texts that write MOVES, JOBS, PLANS, SIGHTS, STANDS and RULES."""

from namesalone.errors import BadLine, BadText
from namesalone.jobs import is_job
from namesalone.plain import are_different, is_ascending, is_name_pair, is_name_set, is_way

NOTHING = "-"


def _joined(texts, between):
    """Return the texts with a sign between two, or what stands for nothing."""
    return between.join(texts) if texts else NOTHING


def _parted(text, between):
    """Return the list of the texts with this sign between two; [] for what stands for nothing."""
    return [] if text == NOTHING else text.split(between)


def move_text(move):
    """Return the text of the MOVE, or of another pair of a NAME and a NAME or None."""
    place, other = move
    return place + ">" + (NOTHING if other is None else other)


def job_text(job):
    """Return the text of the JOB."""
    places, goal = job
    return " ".join(places) + " | " + _joined([move_text(way) for way in goal], " ")


def plan_text(plan):
    """Return the text of a tuple of MOVES."""
    return _joined([move_text(move) for move in plan], ", ")


def sight_text(sight):
    """Return the text of the SIGHT."""
    return _joined(sight, " ")


def stand_text(stand):
    """Return the text of the STAND."""
    return _joined([place + "=" + box for place, box in stand], " ")


def rule_text(rule):
    """Return the text of the RULE, a line for each of its pairs."""
    return _joined([sight_text(sight) + ": " + move_text(move) for sight, move in rule], "\n")


def move_read(text):
    """Return the pair of a NAME and a NAME or None with this text."""
    place, _, other = text.partition(">")
    move = (place, None if other == NOTHING else other)
    if not is_way(move):
        raise BadText()
    return move


def job_read(text):
    """Return the JOB with this text."""
    places, _, goal = text.partition(" | ")
    job = (tuple(places.split(" ")), tuple([move_read(way) for way in _parted(goal, " ")]))
    if not is_job(job):
        raise BadText()
    return job


def plan_read(text):
    """Return the tuple of MOVES with this text."""
    return tuple([move_read(move) for move in _parted(text, ", ")])


def sight_read(text):
    """Return the SIGHT with this text."""
    sight = tuple(_parted(text, " "))
    if not is_name_set(sight):
        raise BadText()
    return sight


def stand_read(text):
    """Return the STAND with this text."""
    stand = tuple([_spot_read(spot) for spot in _parted(text, " ")])
    if not is_ascending([place for place, _ in stand]) or not are_different([box for _, box in stand]):
        raise BadText()
    return stand


def _spot_read(text):
    """Return the pair of a place and a box with this text."""
    place, _, box = text.partition("=")
    if not is_name_pair((place, box)):
        raise BadText()
    return place, box


def rule_read(text):
    """Return the RULE with this text."""
    rule = []
    for number, line in enumerate(_parted(text, "\n")):
        try:
            told = _told_read(line)
        except BadText:
            raise BadLine(number) from None
        if rule and not rule[-1][0] < told[0]:
            raise BadLine(number)
        rule.append(told)
    return tuple(rule)


def _told_read(line):
    """Return the pair of a SIGHT and a MOVE with this text."""
    sight, _, move = line.partition(": ")
    return sight_read(sight), move_read(move)
