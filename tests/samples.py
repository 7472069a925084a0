"""Strips and programs to try, and what programs do, step by step from the document's words.

A strip is its width and its rows, each the rising list of its tracks with holes.
"""

import collections
import itertools
import random

from tests.helper import text_of_rows


def all_rows(width):
    return [[track for track in range(width) if mask >> track & 1] for mask in range(1 << width)]


def small_strips():
    for width, most in ((1, 6), (2, 4), (3, 3)):
        for length in range(most + 1):
            for rows in itertools.product(all_rows(width), repeat=length):
                yield width, list(rows)


def larger_strips():
    source = random.Random(20)
    for turn in range(60):
        width = source.choice([1, 2, 7, 64, 127, 128])
        left = source.choice([1, 5, 40, 256])
        rows = []
        while left > 0:
            count = min(left, source.choice([1, 1, 2, 3, 50]))
            share = source.choice([0, 1, 5, 9, 10])
            rows += [[track for track in range(width) if source.randrange(10) < share]] * count
            left -= count
        if len(text_of_rows(width, rows)) < 20000:
            yield width, rows


def some_strips():
    yield from small_strips()
    yield from larger_strips()


def right_programs():
    """Widths and right programs for them, most of them longer than they need to be."""
    source = random.Random(21)
    for turn in range(200):
        width = source.choice([1, 2, 3, 4, 64, 127, 128])
        given = []
        left = source.choice([0, 1, 10, 256])
        for step in range(source.choice([0, 5, 50, 300])):
            count = source.choice([1, 1, 2, 3, 126, 127])
            if source.randrange(3) > 0:
                given.append(128 + source.randrange(width))
            elif count <= left:
                given.append(count)
                left -= count
        yield width, given + [0]


def punched(given):
    """The rows that a right program makes."""
    down, rows = set(), []
    for byte in given:
        if byte >= 128:
            down ^= {byte - 128}
        else:
            rows += [sorted(down) for number in range(byte)]
    return rows


def program_of_rows(rows):
    """A strip's program, from its runs."""
    given, before = [], []
    for tracks, run in itertools.groupby(rows):
        given += [128 + track for track in range(128) if (track in before) != (track in tracks)]
        left = len(list(run))
        while left > 0:
            given.append(min(left, 127))
            left -= given[-1]
        before = tracks
    return given + [0]


def fewest_bytes(width, rows):
    """How many bytes the shortest right program has that makes these rows, found by trying all.

    A program so far is how many rows it has punched and which punches are down; it may only go
    on to the rows that are wanted.
    """
    steps = {(0, frozenset()): 0}
    waiting = collections.deque(steps)
    while waiting:
        done, down = waiting.popleft()
        if done == len(rows):
            return steps[(done, down)] + 1
        following = [(done, down ^ {punch}) for punch in range(width)]
        for count in range(1, min(127, len(rows) - done) + 1):
            if set(rows[done + count - 1]) != down:
                break
            following.append((done + count, down))
        for state in following:
            if state not in steps:
                steps[state] = steps[(done, down)] + 1
                waiting.append(state)
    raise AssertionError("no program makes these rows")
