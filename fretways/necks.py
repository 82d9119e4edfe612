"""Necks: which notes they sound, and where."""

from fretways.checks import check_neck, is_place


def notes(neck):
    """All notes that some place of the neck sounds, rising, each once."""
    check_neck(neck)
    tuning, frets, capo = neck
    return sorted({start + fret for start in tuning for fret in range(capo, frets + 1)})


def missing(neck):
    """All notes between the least and the greatest of the neck that no place of it sounds."""
    heard = notes(neck)
    return [note for note in range(heard[0], heard[-1]) if note not in heard]


def places(neck, note):
    """All (string, place) of the neck that sound the note, rising."""
    check_neck(neck)
    tuning, _, _ = neck
    return [(string, note - start) for string, start in enumerate(tuning) if is_place(neck, note - start)]


def bare(neck):
    """The neck without a capo that sounds the same as this one."""
    check_neck(neck)
    tuning, frets, capo = neck
    same = (tuple([start + capo for start in tuning]), frets - capo, 0)
    # A capo may lift a string above all that a neck may be tuned to.
    check_neck(same)
    return same
