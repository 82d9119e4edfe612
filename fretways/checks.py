"""What a neck, a place, a shape, a hand, a chord and a tune are; whatever is none is refused."""

from fretways.errors import BadChord, BadHand, BadNeck, BadShape, BadTune

SILENT = -1
MOST_STRINGS = 6
HIGHEST_TUNING = 60
MOST_FRETS = 20
MOST_OF_HAND = 6
MOST_NOTES = 6
HIGHEST_NOTE = 80
MOST_CHORDS = 6
LONGEST_TUNE = 30


def all_within(numbers, least, greatest):
    """Whether each of the numbers is one from the least to the greatest."""
    return all(least <= number <= greatest for number in numbers)


def rises(numbers):
    """Whether each number is greater than the one before it."""
    return all(low < high for low, high in zip(numbers, numbers[1:]))


def is_place(neck, fret):
    """Whether the strings of the neck have a place at the fret."""
    _, frets, capo = neck
    return capo <= fret <= frets


def check_neck(neck):
    """Refuse what is no neck."""
    tuning, frets, capo = neck
    if not 1 <= len(tuning) <= MOST_STRINGS:
        raise BadNeck("a neck has one to six strings")
    if not all_within(tuning, 0, HIGHEST_TUNING):
        raise BadNeck("a string is tuned to a note from 0 to 60")
    if not 0 <= frets <= MOST_FRETS:
        raise BadNeck("a neck has 0 to 20 frets")
    if not 0 <= capo <= frets:
        raise BadNeck("a capo lies at a fret of its neck, or at 0")


def check_shape(neck, shape):
    """Refuse what is no shape on the neck, which is one."""
    tuning, _, _ = neck
    if len(shape) != len(tuning):
        raise BadShape("a shape has a number for each string")
    for fret in shape:
        if fret != SILENT and not is_place(neck, fret):
            raise BadShape("a string has a place from the capo to the last fret, or -1")


def check_hand(hand):
    """Refuse what is no hand."""
    if len(hand) != 2:
        raise BadHand("a hand has a reach and fingers")
    if not all_within(hand, 0, MOST_OF_HAND):
        raise BadHand("reach and fingers are from 0 to 6")


def check_reach(reach):
    """Refuse what is no reach of a hand."""
    if not 0 <= reach <= MOST_OF_HAND:
        raise BadHand("a reach is from 0 to 6")


def check_chord(chord, number=0):
    """Refuse what is no chord; of a list of chords, the number tells which one it is."""
    if not 1 <= len(chord) <= MOST_NOTES:
        raise BadChord("a chord has one to six notes", number)
    if not all_within(chord, 0, HIGHEST_NOTE):
        raise BadChord("the notes of a chord are from 0 to 80", number)
    if not rises(chord):
        raise BadChord("the notes of a chord rise", number)


def check_chords(chords):
    """Refuse what is no list of none to six chords."""
    # Ahead of the chords themselves, with a number that none of up to six chords has.
    if len(chords) > MOST_CHORDS:
        raise BadChord("there are none to six chords", MOST_CHORDS)
    for number, chord in enumerate(chords):
        check_chord(chord, number)


def check_tune(tune):
    """Refuse what is no tune."""
    if not 1 <= len(tune) <= LONGEST_TUNE:
        raise BadTune("a tune has one to thirty notes")
    if not all_within(tune, 0, HIGHEST_NOTE):
        raise BadTune("the notes of a tune are from 0 to 80")
