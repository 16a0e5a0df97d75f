"""Places in the pattern: how far they are apart, and strips or rolls put at other ones."""

from patternmeets.works import Piece


def goes_into(r, repeat):
    return r != 0 and repeat % r == 0


# place may be anywhere along the roll: what is left of it by the repeat is all that counts.
def gap_ahead(place, strip, repeat):
    return (strip.begins - place) % repeat


def places_left(pieces, repeat):
    return [Piece(piece.long, piece.begins % repeat) for piece in pieces]


def moved_on(pieces, by, repeat):
    return [Piece(piece.long, (piece.begins + by) % repeat) for piece in pieces]
