"""A strip of paper: its width, its rows, and what they say by themselves."""

MOST_WIDTH = 128
MOST_ROWS = 256


# A row is the rising list of the tracks that have a hole. A strip is never
# changed once it is made, so its rows may stand in several places at once.
class Strip:
    def __init__(self, width, rows):
        self.width = width
        self.rows = rows


# Each run is a pair: how many rows, and the tracks of their holes.
def runs_of(strip):
    runs = []
    count = 0
    for number, row in enumerate(strip.rows):
        count += 1
        if number + 1 == len(strip.rows) or strip.rows[number + 1] != row:
            runs.append((count, row))
            count = 0
    return runs


def hole_count(strip):
    return sum([len(row) for row in strip.rows])


# A track's holes are made by one punch, so these are the busiest punch's.
def most_in_a_track(strip):
    counts = [0] * strip.width
    for row in strip.rows:
        for track in row:
            counts[track] += 1
    return max(counts)


def unlike_tracks(one, other):
    return sorted(set(one) ^ set(other))


# Row and track of the first difference between strips of the same width; an
# empty list if they are the same. Where one strip has ended there is no track
# to tell, so the width stands for it.
def first_difference(one, other):
    shared = min(len(one.rows), len(other.rows))
    for number in range(shared):
        if one.rows[number] != other.rows[number]:
            return [number, unlike_tracks(one.rows[number], other.rows[number])[0]]
    if len(one.rows) != len(other.rows):
        return [shared, one.width]
    return []


def turned(strip):
    return Strip(strip.width, [turned_row(row, strip.width) for row in strip.rows])


# Turned, the highest track is the lowest: gone through from behind, tracks rise again.
def turned_row(row, width):
    return [width - 1 - track for track in reversed(row)]


def moved(strip, by):
    return Strip(strip.width, [moved_row(row, by, strip.width) for row in strip.rows])


def moved_row(row, by, width):
    return [track + by for track in row if 0 <= track + by < width]


def part(strip, first, count):
    return Strip(strip.width, strip.rows[first:first + count])
