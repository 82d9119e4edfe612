"""What a neck, a place, a shape, a hand and a chord are; whatever is none is refused."""

from fretways.errors import BadChord, BadHand, BadNeck, BadShape

SILENT = -1
MOST_STRINGS = 6
HIGHEST_TUNING = 60
MOST_FRETS = 20
MOST_OF_HAND = 6
MOST_NOTES = 6
HIGHEST_NOTE = 80


def all_within(numbers, least, greatest):
    """Whether each of the numbers is one from the least to the greatest."""
    return all(least <= number <= greatest for number in numbers)


def rises(numbers):
    """Whether each number is greater than the one before it."""
    return all(low < high for low, high in zip(numbers, numbers[1:]))


def is_place(neck, fret):
    """Whether the strings of the neck have a place at the fret."""
    _, frets, capo = neck
    return capo <= fret <= frets


def check_neck(neck):
    """Refuse what is no neck."""
    tuning, frets, capo = neck
    if not 1 <= len(tuning) <= MOST_STRINGS:
        raise BadNeck("a neck has one to six strings")
    if not all_within(tuning, 0, HIGHEST_TUNING):
        raise BadNeck("a string is tuned to a note from 0 to 60")
    if not 0 <= frets <= MOST_FRETS:
        raise BadNeck("a neck has 0 to 20 frets")
    if not 0 <= capo <= frets:
        raise BadNeck("a capo lies at a fret of its neck, or at 0")


def check_shape(neck, shape):
    """Refuse what is no shape on the neck, which is one."""
    tuning, _, _ = neck
    if len(shape) != len(tuning):
        raise BadShape("a shape has a number for each string")
    for fret in shape:
        if fret != SILENT and not is_place(neck, fret):
            raise BadShape("a string has a place from the capo to the last fret, or -1")


def check_hand(hand):
    """Refuse what is no hand."""
    if len(hand) != 2:
        raise BadHand("a hand has a reach and fingers")
    if not all_within(hand, 0, MOST_OF_HAND):
        raise BadHand("reach and fingers are from 0 to 6")


def check_chord(chord):
    """Refuse what is no chord."""
    if not 1 <= len(chord) <= MOST_NOTES:
        raise BadChord("a chord has one to six notes")
    if not all_within(chord, 0, HIGHEST_NOTE):
        raise BadChord("the notes of a chord are from 0 to 80")
    if not rises(chord):
        raise BadChord("the notes of a chord rise")
