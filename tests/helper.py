"""Calls as the interface writes them, and answers read back from its list."""

from punchhall.strips import answers

HIGHEST = 4294967295
EXAMPLE = "strip 4\n2 0 3\n1\n1 0\n"


def read(text):
    given = list(text.encode("latin-1")) if isinstance(text, str) else list(text)
    return [1, len(given)] + given


def text(s):
    return [2, s]


def size(s):
    return [3, s]


def row(s, i):
    return [4, s, i]


def holes(s):
    return [5, s]


def slots(s):
    return [6, s]


def fill(width, rows, slots_given):
    flat = [number for slot in slots_given for number in slot]
    return [7, width, rows, len(flat)] + flat


def diff(s, u):
    return [8, s, u]


def turned(s):
    return [9, s]


def moved(s, b):
    return [10, s, b]


def part(s, i, k):
    return [11, s, i, k]


def program(s):
    return [12, s]


def punch(width, given):
    return [13, width, len(given)] + list(given)


def busy(width, given):
    return [14, width, len(given)] + list(given)


def short(width, given):
    return [15, width, len(given)] + list(given)


def joined(calls):
    return [number for call in calls for number in call]


def unpacked(body):
    """One call's numbers as (number, list, text); fails if they're not in the interface's form."""
    if len(body) == 1:
        return (body[0], [], "")
    count = body[1]
    listed = body[2:2 + count]
    length = body[2 + count]
    given = body[3 + count:]
    assert count + length > 0, body
    assert len(listed) == count and len(given) == length, body
    return (body[0], listed, bytes(given).decode("latin-1"))


def ask(*calls):
    """The answers of these calls on one new object, each as (number, list, text)."""
    raw = answers(joined(calls))
    assert all(type(number) is int for number in raw)
    given_back = []
    place = 0
    while place < len(raw):
        end = place + 1 + raw[place]
        assert end <= len(raw), raw
        given_back.append(unpacked(raw[place + 1:end]))
        place = end
    assert len(given_back) == len(calls)
    return given_back


def ask_last(*calls):
    return ask(*calls)[-1]


def alone(number):
    return (number, [], "")


def counted(given):
    """The answer that tells how many bytes these are, and them."""
    return (len(given), [], bytes(given).decode("latin-1"))


def text_of_rows(width, rows):
    """A strip's text, written from its rows (lists of tracks) by the document's words."""
    lines = ["strip %d\n" % width]
    place = 0
    while place < len(rows):
        end = place
        while end < len(rows) and rows[end] == rows[place]:
            end += 1
        lines.append(str(end - place) + "".join(" %d" % track for track in rows[place]) + "\n")
        place = end
    return "".join(lines)


def slots_of_rows(rows):
    """A strip's slots, found hole by hole."""
    has = {(number, track) for number, tracks in enumerate(rows) for track in tracks}
    found = []
    for number, track in sorted(has):
        if (number - 1, track) not in has:
            end = number
            while (end, track) in has:
                end += 1
            found.append((track, number, end - number))
    return found


def flat(slots_given):
    return [number for slot in slots_given for number in slot]
