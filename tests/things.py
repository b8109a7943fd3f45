"""Things of all kinds that several tests hand in."""

import itertools

# None of these is a text, a long, a heap, a row of pieces or a line.
OTHER_KINDS = (
    None, True, False, 0, -1, 301, 10 ** 5000, -(10 ** 5000), 2.0, float("nan"), 1j, b"ab", b"",
    "", " ", "\n", "\t", "~", "A", "Ab", "a1", "a b*", [], (), {}, set(), frozenset(), object(), len, int, ValueError,
    [None], (None,), [[]], ((),), ([],), ({},), {"ab": 1}, {"a"}, [("ab", 1)], (["ab", 1],), ({"ab": 1},),
    [True], (True,), [1], (1,), [["ab"]], (("ab",),), iter(("ab",)), range(3),
)


def deep_list():
    nested = []
    for step in range(100000):
        nested = [nested]
    return nested


def texts_upto(letters, most):
    """All texts of these letters that have 1 to most signs."""
    for signs in range(1, most + 1):
        for chosen in itertools.product(letters, repeat=signs):
            yield "".join(chosen)


def long_text(signs):
    """A text of that many signs whose pieces are mostly unlike."""
    state, letters = 7, []
    for place in range(signs):
        state = (state * 1103515245 + 12345) % 2 ** 31
        letters.append("abcdefghijklmnopqrstuvwxyz"[state // 65536 % 26])
    return "".join(letters)
