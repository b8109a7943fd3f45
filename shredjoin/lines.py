"""Heaps written as lines, and lines read as heaps."""

from shredjoin.errors import NoLine
from shredjoin.pieces import is_heap

FIGURES = "0123456789"
# No heap has a piece more than 300 times, and Python may refuse to read a number of thousands of figures.
MOST_FIGURES = 3


def show_pair(piece, many):
    if many == 1:
        return piece
    return f"{piece}*{many}"


def show_heap(H):
    return " ".join([show_pair(piece, many) for piece, many in H])


def read_many(figures):
    if figures == "":
        return 1
    # 0 is a many that no heap has, so it stands for what cannot be read.
    if len(figures) > MOST_FIGURES or not all([sign in FIGURES for sign in figures]):
        return 0
    return int(figures)


def read_pair(word):
    parts = word.partition("*")
    return (parts[0], read_many(parts[2]))


def read_heap(line):
    if not isinstance(line, str):
        raise NoLine("a line is a str")
    heap = tuple([read_pair(word) for word in line.split(" ")])
    # Many spellings tell the same heap (a nought ahead, a bare star); only the written one counts.
    if not is_heap(heap) or show_heap(heap) != line:
        raise NoLine("no heap is written as this line")
    return heap
