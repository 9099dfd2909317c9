"""Views: which piece decides, and where it looks (point 41)."""


def deciding_piece(view, index):
    """Return which piece of the view decides for the index, or None."""
    for at in range(len(view.pieces) - 1, -1, -1):
        if is_in_box(view.pieces[at], index):
            return at
    return None


def is_in_box(piece, index):
    """Tell whether the box of the piece contains the index."""
    _, _, target, counts = piece
    return all([start <= place < start + count for place, start, count in zip(index, target, counts)])


def source_index(piece, index):
    """Return the index in the array that the piece shows at the index."""
    _, source, target, _ = piece
    return tuple([place - there + here for place, there, here in zip(index, target, source)])
