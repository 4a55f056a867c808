"""LISTS: short texts that write a JOB, with ranges of NAMEs."""

from namesalone.errors import BadText
from namesalone.jobs import free_places, goals_of
from namesalone.plain import LETTERS, are_different, is_name

MOST_PLACES = 40
AWAY = "-"


def is_list(thing):
    """Tell whether thing is a LIST."""
    if not isinstance(thing, str):
        return False
    try:
        list_read(thing)
    except BadText:
        return False
    return True


def list_read(text):
    """Return the JOB that the LIST writes."""
    pairs, free = _pairs_and_free(_single_words(text))
    told = [box for box, _ in pairs] + free
    ends = [end for _, end in pairs if end is not None]
    places = tuple(sorted(set(told + ends)))
    if not are_different(told) or not are_different(ends) or len(places) > MOST_PLACES:
        raise BadText()
    return places, tuple(sorted(pairs))


def _pairs_and_free(words):
    """Return the lists of the pairs of each box and where it goes, and of the places told with +."""
    pairs, free = [], []
    for word in words:
        box, sign, end = word.partition(">")
        if word.startswith("+"):
            free.append(word[1:])
        elif sign == "":
            pairs.append((box, box))
        else:
            pairs.append((box, None if end == AWAY else end))
    return pairs, free


def _single_words(text):
    """List the words of the text, each range told word by word."""
    return [single for word in text.split(" ") for single in _singles(word)]


def _singles(word):
    """List the words without ranges for which this word stands."""
    start, sign, end = word.partition(">")
    if word.startswith("+"):
        return ["+" + name for name in _names_of(word[1:])]
    if sign == "":
        return list(_names_of(word))
    if end == AWAY:
        return [name + ">" + AWAY for name in _names_of(start)]
    names, others = _names_of(start), _names_of(end)
    if len(names) != len(others):
        raise BadText()
    return [name + ">" + other for name, other in zip(names, others)]


def _names_of(text):
    """Return the tuple of the NAMEs for which a NAME or a range stands."""
    if is_name(text):
        return (text,)
    first, _, last = text.partition("..")
    if not is_name(first) or not is_name(last):
        raise BadText()
    return range_names(first, last)


def range_names(first, last):
    """Return the tuple of the NAMEs for which the range from first to last stands."""
    if first[:-1] != last[:-1] or first >= last:
        raise BadText()
    letters = LETTERS[LETTERS.index(first[-1]):LETTERS.index(last[-1]) + 1]
    return tuple([first[:-1] + letter for letter in letters])


def spread(text):
    """Return the LIST with its words in the same order and each range told word by word."""
    # Reading it tells whether it is a LIST at all.
    list_read(text)
    return " ".join(_single_words(text))


def list_text(job):
    """Return the LIST without ranges that writes the JOB."""
    goals = goals_of(job)
    ends = {end: True for end in goals.values()}
    free = ["+" + place for place in free_places(job) if place not in ends]
    return " ".join([_word_of(box, end) for box, end in goals.items()] + free)


def _word_of(box, end):
    """Return the word for a box and where it goes."""
    if box == end:
        return box
    return box + ">" + (AWAY if end is None else end)
