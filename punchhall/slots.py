"""Slots, told of a strip and made into one.

A row of slots is one list with three numbers for each slot: its track, its
first row, how many rows it has.
"""

from punchhall.paper import Strip


# Rows are walked in order and tracks rise within a row, so slots come in order.
def slots_of(strip):
    slots = []
    going = {}
    for number, row in enumerate(strip.rows):
        still = {}
        for track in row:
            if track in going:
                still[track] = going[track]
                slots[going[track]] += 1
            else:
                slots.extend([track, number, 1])
                still[track] = len(slots) - 1
        going = still
    return slots


# How many slots, from the first on, can stand one behind another. Where not
# all can, it is the number of the first that can't.
def standing_slots(width, length, slots):
    ends = {}
    for place in range(0, len(slots), 3):
        track = slots[place]
        first = slots[place + 1]
        end = first + slots[place + 2]
        if track >= width or end == first or end > length:
            return place // 3
        if place > 0 and not in_order(slots, place):
            return place // 3
        if track in ends and first <= ends[track]:
            return place // 3
        ends[track] = end
    return len(slots) // 3


def in_order(slots, place):
    before = (slots[place - 2], slots[place - 3])
    return before < (slots[place + 1], slots[place])


# Takes only slots that can stand: others would lie beside the rows or twice in one.
def strip_of_slots(width, length, slots):
    rows = [[] for number in range(length)]
    for place in range(0, len(slots), 3):
        first = slots[place + 1]
        for number in range(first, first + slots[place + 2]):
            rows[number].append(slots[place])
    return Strip(width, [sorted(row) for row in rows])
