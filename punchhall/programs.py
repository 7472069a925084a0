"""Programs: where their bytes are at fault, the strips they make, and a strip's own."""

from punchhall.paper import MOST_ROWS, Strip, runs_of, unlike_tracks

END = 0
MOST_AT_ONCE = 127
FIRST_TURN = 128


# The place of the first byte that can't be; None if the program is right.
def program_fault(width, program):
    rows = 0
    for place, byte in enumerate(program):
        if byte == END:
            return None if place + 1 == len(program) else place + 1
        if byte >= FIRST_TURN + width:
            return place
        if byte <= MOST_AT_ONCE:
            rows += byte
        if rows > MOST_ROWS:
            return place
    return len(program)


# Takes only a right program: another may turn a punch that isn't there.
def strip_of_program(width, program):
    down = [False] * width
    rows = []
    for byte in program:
        if byte >= FIRST_TURN:
            down[byte - FIRST_TURN] = not down[byte - FIRST_TURN]
        elif byte != END:
            tracks = [track for track in range(width) if down[track]]
            rows.extend([tracks] * byte)
    return Strip(width, rows)


def turn_count(program):
    return len([byte for byte in program if byte >= FIRST_TURN])


# No program of the strip is shorter: between two runs each punch that differs
# has to be turned, and no byte punches more rows than 127.
def program_of(strip):
    program = []
    before = []
    for count, tracks in runs_of(strip):
        program.extend([FIRST_TURN + track for track in unlike_tracks(before, tracks)])
        program.extend(bytes_of_rows(count))
        before = tracks
    return program + [END]


def bytes_of_rows(count):
    rest = count % MOST_AT_ONCE
    whole = [MOST_AT_ONCE] * (count // MOST_AT_ONCE)
    return whole if rest == 0 else whole + [rest]
