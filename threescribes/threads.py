"""Threads: what a box of a plan holds, told by what its boxes held at an earlier place.

A thread is a pair (shape, pieces). The shape is a tuple of the boxes of the earlier place, and the pieces are what
stands ahead of, between and behind them: rows of strings and of boxes of a machine that keeps them.
"""

from threescribes.rows import joined


def thread_of(row):
    """The thread of a row that is made of what the boxes held just before."""
    shape = []
    pieces = [()]
    for item in row:
        if isinstance(item, str):
            pieces[-1] += (item,)
        else:
            shape.append(item)
            pieces.append(())
    return tuple(shape), tuple(pieces)


def linked(thread, threads):
    """A thread made of what boxes held at some place, in terms of what they held earlier, by the threads of these."""
    shape = []
    pieces = [thread[1][0]]
    for box, piece in zip(thread[0], thread[1][1:]):
        shape.extend(threads[box][0])
        pieces[-1] += threads[box][1][0]
        pieces.extend(threads[box][1][1:])
        pieces[-1] += piece
    return tuple(shape), tuple([joined(piece) for piece in pieces])


def all_linked(later, threads):
    """Several threads, made of what boxes held earlier."""
    return [linked(thread, threads) for thread in later]


def kept_in_boxes(shapes, begin):
    """The threads of these shapes whose pieces are in boxes of the machine, from one box on, one piece in each."""
    threads = []
    for shape in shapes:
        threads.append((shape, tuple([(box,) for box in range(begin, begin + len(shape) + 1)])))
        begin += len(shape) + 1
    return threads
