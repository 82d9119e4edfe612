"""Shapes: how chords are laid on a neck, what shapes sound, and how they are slid."""

from itertools import permutations

from fretways.checks import SILENT, check_chord, check_hand, check_neck, check_shape, is_place


def ways(neck, chord, hand):
    """All shapes that the hand can lay and that sound just the chord, rising."""
    check_neck(neck)
    check_chord(chord)
    check_hand(hand)
    tuning, _, _ = neck
    found = []
    for strings in permutations(range(len(tuning)), len(chord)):
        shape = _placed(neck, chord, strings)
        if shape is not None and _fits(neck, shape, hand):
            found.append(shape)
    return sorted(found)


def sounded(neck, shape):
    """The notes of the strings that sound, in the order of their strings."""
    check_neck(neck)
    check_shape(neck, shape)
    tuning, _, _ = neck
    return [start + fret for start, fret in zip(tuning, shape) if fret != SILENT]


def slid(neck, shape, far):
    """The shape with each sounding string so many places on, or None."""
    check_neck(neck)
    check_shape(neck, shape)
    return _moved(neck, shape, far)


def apart(neck, one, other):
    """By how many places the one shape slid is the other one, or None."""
    check_neck(neck)
    check_shape(neck, one)
    check_shape(neck, other)
    far = _first_step(one, other)
    if _moved(neck, one, far) == other:
        return far
    return None


def can_lay(neck, shape, hand):
    """Whether the hand can lay the shape."""
    check_neck(neck)
    check_shape(neck, shape)
    check_hand(hand)
    return _fits(neck, shape, hand)


def _placed(neck, chord, strings):
    """The shape with each note of the chord on its string; None, if one has no place there."""
    tuning, _, _ = neck
    shape = [SILENT] * len(tuning)
    for note, string in zip(chord, strings):
        fret = note - tuning[string]
        # Asked here, since a note just below its string would come out as a silent one.
        if not is_place(neck, fret):
            return None
        shape[string] = fret
    return tuple(shape)


def _is_pressed(neck, fret):
    """Whether the fret is a place above the capo."""
    _, _, capo = neck
    return fret != capo and is_place(neck, fret)


def _fits(neck, shape, hand):
    """Whether the hand has the fingers and the reach for the shape."""
    reach, fingers = hand
    pressed = [fret for fret in shape if _is_pressed(neck, fret)]
    if not pressed:
        return True
    return len(pressed) <= fingers and max(pressed) - min(pressed) <= reach


def _moved(neck, shape, far):
    """The shape slid; None, if a sounding string is not pressed, here or there."""
    for fret in shape:
        if fret != SILENT and not (_is_pressed(neck, fret) and _is_pressed(neck, fret + far)):
            return None
    return tuple([fret if fret == SILENT else fret + far for fret in shape])


def _first_step(one, other):
    """How far the first sounding string of the one shape moves to the other; 0, if none sounds."""
    for here, there in zip(one, other):
        if here != SILENT:
            return there - here
    return 0
