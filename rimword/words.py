"""Words of steps: where they lead, their short form, and the way back."""

MOVES = {"e": (1, 0), "n": (0, 1), "w": (-1, 0), "s": (0, -1)}
BACK = {"e": "w", "n": "s", "w": "e", "s": "n"}


def corners(corner, word):
    """All corners of the way that the word leads, the first one too."""
    x, y = corner
    found = [(x, y)]
    for step in word:
        right, up = MOVES[step]
        x = x + right
        y = y + up
        found.append((x, y))
    return found


def reduced(word):
    """The word without steps that go back at once."""
    kept = []
    for step in word:
        # A step that is taken away lays bare the one before it, so that the
        # next step is compared with that one: one pass is enough.
        if kept and kept[-1] == BACK[step]:
            kept.pop()
        else:
            kept.append(step)
    return "".join(kept)


def inverse(word):
    """The word of the way back."""
    return "".join([BACK[step] for step in word[::-1]])
