"""What is sure in all texts of a heap, and from which long on a text is the only one."""

from shredjoin.errors import NoPiece, NoTexts
from shredjoin.exchanges import change_of, deed_done, is_only
from shredjoin.nets import begin_of, end_of, nexts_of, start_of, ties_of
from shredjoin.pieces import less_one, long_of
from shredjoin.verdicts import has_text
from shredjoin.ways import text_from


def sure_long(T):
    long = len(T)
    while long > 1 and is_only(T, long - 1):
        long = long - 1
    if long == 1:
        return (1, None)
    return (long, deed_done(T, long - 1, change_of(T, long - 1)))


def text_with(H, piece, sign):
    other = end_of(piece) + sign
    rest = less_one(less_one(H, piece), other)
    # Both pieces are one tie now, so that nothing comes between them.
    both = (begin_of(piece), piece[-1] + sign, end_of(other))
    return text_from(ties_of(rest) + [both], start_of(H, begin_of(piece)))


def text_that_ends(H, piece):
    rest = less_one(H, piece)
    # This tie goes to a point of its own (no point is as long as a piece), so that nothing comes behind it.
    last = (begin_of(piece), piece[-1], piece)
    return text_from(ties_of(rest) + [last], start_of(H, end_of(piece)))


def signs_behind(H, piece):
    rows = [("", text_that_ends(H, piece))]
    for sign, many in nexts_of(less_one(H, piece), end_of(piece)):
        rows.append((sign, text_with(H, piece, sign)))
    return tuple([row for row in rows if row[1] is not None])


def backwards(H):
    return tuple(sorted([(piece[::-1], many) for piece, many in H]))


def check_piece(H, piece):
    if piece not in dict(H):
        raise NoPiece("the heap does not have this piece")
    if not has_text(H):
        raise NoTexts("the heap has no text")


def behind_of(H, piece):
    check_piece(H, piece)
    return signs_behind(H, piece)


def ahead_of(H, piece):
    check_piece(H, piece)
    # What stands ahead stands behind where all texts are read from their ends.
    return tuple([(sign, text[::-1]) for sign, text in signs_behind(backwards(H), piece[::-1])])


def sure_sign(H, piece):
    rows = signs_behind(H, piece)
    if len(rows) > 1:
        return ""
    return rows[0][0]


def drawn_out(H, stretch):
    long = long_of(H)
    longer = stretch
    sign = sure_sign(H, longer[-long:])
    while sign != "":
        longer = longer + sign
        sign = sure_sign(H, longer[-long:])
    return longer


def stretch_of(H, piece):
    check_piece(H, piece)
    stretch = drawn_out(H, piece)
    return drawn_out(backwards(H), stretch[::-1])[::-1]
