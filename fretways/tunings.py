"""Tunings: how a neck is retuned least, so that all of some chords can be laid."""

from fretways.checks import HIGHEST_TUNING, check_chords, check_hand, check_neck
from fretways.errors import BadNeck
from fretways.shapes import ways

MOST_RETUNED = 4
FARTHEST = 2


def retuned(neck, chords, hand):
    """The first retuning that serves the chords, and why none ahead of it does; None, if none serves."""
    _check_retunable(neck)
    check_chords(chords)
    check_hand(hand)
    reasons = []
    for retuning in _retunings(neck):
        number = _first_without_way(_tuned(neck, retuning), chords, hand)
        if number is None:
            return retuning, reasons
        reasons.append((retuning, number))
    return None


def _check_retunable(neck):
    """Refuse what is no neck, and one of too many strings to be retuned."""
    check_neck(neck)
    tuning, _, _ = neck
    if len(tuning) > MOST_RETUNED:
        raise BadNeck("a neck of at most four strings can be retuned")


def _retunings(neck):
    """All retunings of the neck, in their order."""
    tuning, _, _ = neck
    found = [()]
    for note in tuning:
        least = max(-FARTHEST, -note)
        greatest = min(FARTHEST, HIGHEST_TUNING - note)
        found = [ahead + (step,) for ahead in found for step in range(least, greatest + 1)]
    return sorted(found, key=_rank)


def _rank(retuning):
    """What the order of retunings goes by: how much is changed, then the tuple itself."""
    return sum([abs(step) for step in retuning]), retuning


def _tuned(neck, retuning):
    """The neck with each string's note changed by its number."""
    tuning, frets, capo = neck
    return tuple([note + step for note, step in zip(tuning, retuning)]), frets, capo


def _first_without_way(neck, chords, hand):
    """The number of the first chord for which there is no way on the neck; None, if each has one."""
    for number, chord in enumerate(chords):
        if not ways(neck, chord, hand):
            return number
    return None
