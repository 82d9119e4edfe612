"""Texts: how shapes are written and read."""

from fretways.checks import SILENT, check_neck, check_shape
from fretways.errors import BadText

SILENT_WORD = "x"


def written(neck, shape):
    """The text of the shape, the last string's word first."""
    check_neck(neck)
    check_shape(neck, shape)
    return " ".join([SILENT_WORD if fret == SILENT else str(fret) for fret in reversed(shape)])


def read(neck, text):
    """The shape of the text."""
    check_neck(neck)
    tuning, _, _ = neck
    words = text.split(" ")
    if len(words) != len(tuning):
        raise BadText("a text has a word for each string, and one blank between two words")
    meanings = _meanings(neck)
    shape = []
    for word in reversed(words):
        if word not in meanings:
            raise BadText("a word is x or a place of the string, without a needless 0")
        shape.append(meanings[word])
    return tuple(shape)


def _meanings(neck):
    """For each word that a string may have its number in a shape."""
    _, frets, capo = neck
    # Looked up rather than counted from figures, so that other spellings of a place are no words.
    meanings = {str(fret): fret for fret in range(capo, frets + 1)}
    meanings[SILENT_WORD] = SILENT
    return meanings
