"""The calls on one object, and their answers.

What answers a call takes the object's strips, the call's whole numbers and
its row of numbers, and gives back what is answered, number by number.
"""

from punchhall.paper import MOST_ROWS, MOST_WIDTH, first_difference, hole_count, most_in_a_track, runs_of
from punchhall.paper import moved, part, turned
from punchhall.programs import program_fault, program_of, strip_of_program, turn_count
from punchhall.slots import slots_of, standing_slots, strip_of_slots
from punchhall.texts import Fault, strip_of_text, text_of

MOST_STRIPS = 32
MOST_BYTES = 65536
MOST_SLOTS = 1024

OUT_OF_RANGE = -1
TOO_LONG = -2
DOES_NOT_FIT = -3
NOT_THERE = -4
FAULTY = -6
NO_ROOM = -10


def answer(number, numbers, text):
    if len(numbers) == 0 and len(text) == 0:
        return [number]
    return [number, len(numbers)] + numbers + [len(text)] + text


def number_alone(number):
    return answer(number, [], [])


def counted_text(text):
    return answer(len(text), [], text)


# Comes last in every call that makes a strip: that there is no room is told
# only when nothing else is to be refused.
def keep(strips, strip):
    if len(strips) == MOST_STRIPS:
        return number_alone(NO_ROOM)
    strips.append(strip)
    return number_alone(len(strips) - 1)


def answer_read(strips, numbers, given):
    if len(given) > MOST_BYTES:
        return number_alone(TOO_LONG)
    try:
        strip = strip_of_text(given)
    except Fault as fault:
        return answer(FAULTY, [fault.place], [])
    return keep(strips, strip)


def answer_text(strips, numbers, given):
    return counted_text(text_of(strips[numbers[0]]))


def answer_size(strips, numbers, given):
    strip = strips[numbers[0]]
    return answer(0, [strip.width, len(strip.rows), len(runs_of(strip))], [])


def answer_row(strips, numbers, given):
    rows = strips[numbers[0]].rows
    if numbers[1] >= len(rows):
        return number_alone(NOT_THERE)
    tracks = rows[numbers[1]]
    return answer(len(tracks), tracks, [])


def answer_holes(strips, numbers, given):
    return number_alone(hole_count(strips[numbers[0]]))


def answer_slots(strips, numbers, given):
    slots = slots_of(strips[numbers[0]])
    return answer(len(slots) // 3, slots, [])


def answer_fill(strips, numbers, given):
    width = numbers[0]
    length = numbers[1]
    count = len(given) // 3
    if not 1 <= width <= MOST_WIDTH or length > MOST_ROWS or count > MOST_SLOTS:
        return number_alone(OUT_OF_RANGE)
    standing = standing_slots(width, length, given)
    if standing < count:
        return answer(DOES_NOT_FIT, [standing], [])
    return keep(strips, strip_of_slots(width, length, given))


def answer_diff(strips, numbers, given):
    one = strips[numbers[0]]
    other = strips[numbers[1]]
    if one.width != other.width:
        return number_alone(OUT_OF_RANGE)
    difference = first_difference(one, other)
    if len(difference) == 0:
        return number_alone(0)
    return answer(1, difference, [])


def answer_turned(strips, numbers, given):
    return keep(strips, turned(strips[numbers[0]]))


def answer_moved(strips, numbers, given):
    return keep(strips, moved(strips[numbers[0]], numbers[1]))


def answer_part(strips, numbers, given):
    strip = strips[numbers[0]]
    first = numbers[1]
    count = numbers[2]
    if first + count > len(strip.rows):
        return number_alone(DOES_NOT_FIT)
    return keep(strips, part(strip, first, count))


def answer_program(strips, numbers, given):
    return counted_text(program_of(strips[numbers[0]]))


def answer_punch(strips, numbers, given):
    return keep(strips, strip_of_program(numbers[0], given))


def answer_busy(strips, numbers, given):
    strip = strip_of_program(numbers[0], given)
    return answer(0, [len(strip.rows), hole_count(strip), turn_count(given), most_in_a_track(strip)], [])


def answer_short(strips, numbers, given):
    return counted_text(program_of(strip_of_program(numbers[0], given)))


ANSWERERS = {
    1: answer_read,
    2: answer_text,
    3: answer_size,
    4: answer_row,
    5: answer_holes,
    6: answer_slots,
    7: answer_fill,
    8: answer_diff,
    9: answer_turned,
    10: answer_moved,
    11: answer_part,
    12: answer_program,
    13: answer_punch,
    14: answer_busy,
    15: answer_short,
}

# Of each call: how many strips it names first, how many numbers stand behind
# them, how many rows of numbers behind those.
SHAPES = {
    1: (0, 0, 1),
    2: (1, 0, 0),
    3: (1, 0, 0),
    4: (1, 1, 0),
    5: (1, 0, 0),
    6: (1, 0, 0),
    7: (0, 2, 1),
    8: (2, 0, 0),
    9: (1, 0, 0),
    10: (1, 1, 0),
    11: (1, 2, 0),
    12: (1, 0, 0),
    13: (0, 1, 1),
    14: (0, 1, 1),
    15: (0, 1, 1),
}

# The calls whose row of numbers is a program for the width that stands before it.
OF_PROGRAMS = (13, 14, 15)


def all_there(strips, named):
    return all([number < len(strips) for number in named])


# None if the bytes are a right program.
def refusal_of_program(width, program):
    if not 1 <= width <= MOST_WIDTH:
        return number_alone(OUT_OF_RANGE)
    if len(program) > MOST_BYTES:
        return number_alone(TOO_LONG)
    place = program_fault(width, program)
    if place is not None:
        return answer(FAULTY, [place], [])
    return None


# What several calls refuse in the same way is refused here, so what answers
# them has strips that are there and right programs alone.
def answer_call(strips, call, numbers, given):
    if not all_there(strips, numbers[:SHAPES[call][0]]):
        return number_alone(NOT_THERE)
    if call in OF_PROGRAMS:
        refusal = refusal_of_program(numbers[0], given)
        if refusal is not None:
            return refusal
    return ANSWERERS[call](strips, numbers, given)


def answers(calls):
    strips = []
    given_back = []
    place = 0
    while place < len(calls):
        call = calls[place]
        shape = SHAPES[call]
        end = place + 1 + shape[0] + shape[1]
        numbers = calls[place + 1:end]
        given = []
        if shape[2] == 1:
            begin = end + 1
            end = begin + calls[end]
            given = calls[begin:end]
        answered = answer_call(strips, call, numbers, given)
        given_back.append(len(answered))
        given_back.extend(answered)
        place = end
    return given_back
