"""Things of all kinds that several tests hand in."""

import itertools

# None of these is a text, a long, a heap, a row of pieces or a line.
OTHER_KINDS = (
    None, True, False, 0, -1, 301, 10 ** 5000, -(10 ** 5000), 2.0, float("nan"), 1j, b"ab", b"",
    "", " ", "\n", "\t", "~", "A", "Ab", "a1", "a b*", [], (), {}, set(), frozenset(), object(), len, int, ValueError,
    [None], (None,), [[]], ((),), ([],), ({},), {"ab": 1}, {"a"}, [("ab", 1)], (["ab", 1],), ({"ab": 1},),
    [True], (True,), [1], (1,), [["ab"]], (("ab",),), iter(("ab",)), range(3),
)


def deep_list():
    nested = []
    for step in range(100000):
        nested = [nested]
    return nested


def texts_upto(letters, most):
    """All texts of these letters that have 1 to most signs."""
    for signs in range(1, most + 1):
        for chosen in itertools.product(letters, repeat=signs):
            yield "".join(chosen)


def long_text(signs):
    """A text of that many signs whose pieces are mostly unlike."""
    state, letters = 7, []
    for place in range(signs):
        state = (state * 1103515245 + 12345) % 2 ** 31
        letters.append("abcdefghijklmnopqrstuvwxyz"[state // 65536 % 26])
    return "".join(letters)


def row_of_pieces(heap):
    """The pieces of a heap, each as often as its many tells."""
    return [piece for piece, many in heap for time in range(many)]


def small_heaps(pieces, most):
    """All heaps of these pieces (in order) in which each comes at most so often."""
    for manys in itertools.product(range(most + 1), repeat=len(pieces)):
        heap = tuple((piece, many) for piece, many in zip(pieces, manys) if many)
        if heap:
            yield heap


def some_heaps():
    """Small heaps of several longs, with texts and without."""
    yield from small_heaps(("a", "b", "c"), 2)
    yield from small_heaps(("aa", "ab", "ba", "bb"), 2)
    yield from small_heaps(("aa", "ab", "bc", "ca", "cb"), 1)
    yield from small_heaps(("ab", "ba", "bc", "cd", "dc"), 1)
    yield from small_heaps(("aab", "aba", "abb", "baa", "bba"), 1)
    yield from small_heaps(("abab", "baba", "bbbb"), 2)


def texts_of(heap):
    """All texts of a heap in order, by putting signs behind one another until the pieces are used up."""
    long, manys, found = len(heap[0][0]), dict(heap), []
    size = sum(manys.values())

    def go_on(text, left):
        if len(text) == size + long - 1:
            found.append(text)
            return
        for sign in sorted({piece[-1] for piece in manys}):
            piece = (text + sign)[-long:]
            if left.get(piece, 0):
                go_on(text + sign, {**left, piece: left[piece] - 1})

    for piece in manys:
        go_on(piece, {**manys, piece: manys[piece] - 1})
    return sorted(set(found))


def drawn_numbers(seed):
    """Numbers without end that look drawn, the same ones each time."""
    state = seed
    while True:
        state = (state * 6364136223846793005 + 1442695040888963407) % 2 ** 64
        yield state >> 33


def drawn_text(seed, signs, letters):
    numbers = drawn_numbers(seed)
    return "".join(letters[next(numbers) % len(letters)] for place in range(signs))
