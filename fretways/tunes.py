"""Tunes: played with the least movement of the hand, and the table by which one sees that less doesn't do."""

from fretways.checks import check_neck, check_reach, check_tune
from fretways.necks import places

CANNOT = -1


def played(neck, tune, reach):
    """The least movement and a playing that has it; None, if some note can't be played."""
    rows = table(neck, tune, reach)
    if rows is None:
        return None
    playing = []
    for note, position in zip(tune, _walk(_positions(neck), rows)):
        string, fret = _place_from(neck, note, reach, position)
        playing.append((string, fret, position))
    return movement(playing), playing


def table(neck, tune, reach):
    """For each note the least movement up to it in each position, -1 where it can't be played; or None."""
    check_neck(neck)
    check_tune(tune)
    check_reach(reach)
    # Ahead of the first note the hand may lie in any position without having moved.
    row = [0] * len(_positions(neck))
    rows = []
    for note in tune:
        row = _next_row(neck, note, reach, row)
        if max(row) == CANNOT:
            return None
        rows.append(row)
    return rows


def movement(playing):
    """How far the position goes up and down from note to note, in all."""
    positions = [position for _, _, position in playing]
    return sum([abs(there - here) for here, there in zip(positions, positions[1:])])


def _positions(neck):
    """All positions of the hand, rising."""
    _, frets, capo = neck
    # Without a fret above the capo the hand still lies at the one that would follow.
    return list(range(capo + 1, max(frets, capo + 1) + 1))


def _place_from(neck, note, reach, position):
    """The first (string, place) by which the hand plays the note in the position; None, if there is none."""
    _, _, capo = neck
    for string, fret in places(neck, note):
        if fret == capo or position <= fret <= position + reach:
            return string, fret
    return None


def _next_row(neck, note, reach, row):
    """The row of the note, by the row of the note ahead of it."""
    positions = _positions(neck)
    return [
        CANNOT if _place_from(neck, note, reach, position) is None else _arrival(positions, row, position)[0]
        for position in positions
    ]


def _arrival(positions, row, position):
    """The least movement with which the hand comes to the position, and from which one of the row."""
    return min([(moved + abs(position - here), here) for here, moved in zip(positions, row) if moved != CANNOT])


def _walk(positions, rows):
    """The position of each note, along a way of the least movement."""
    # Found from the last note back: only its row tells where the least movement ends.
    _, position = min([(moved, there) for there, moved in zip(positions, rows[-1]) if moved != CANNOT])
    walk = [position]
    for row in reversed(rows[:-1]):
        _, position = _arrival(positions, row, position)
        walk.append(position)
    return walk[::-1]
