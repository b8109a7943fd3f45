"""The verdict of a heap: a text of it, or why it has none."""

from shredjoin.nets import begin_of, begins_of, start_of, ties_of
from shredjoin.parts import hangs, part_of
from shredjoin.ways import text_from


def has_many_begins(H):
    return sum([more for point, more in begins_of(H)]) > 1


def has_text(H):
    return hangs(H) and not has_many_begins(H)


def verdict(H):
    if has_many_begins(H):
        return ("begins", begins_of(H))
    if not hangs(H):
        return ("apart", part_of(H))
    return ("text", text_from(ties_of(H), start_of(H, begin_of(H[0][0]))))
