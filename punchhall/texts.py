"""A strip's text, written and read; a text is a list of bytes."""

from punchhall.paper import MOST_ROWS, MOST_WIDTH, Strip, runs_of

HEAD = "strip "
LINE_END = 10
BLANK = 32
DIGIT_0 = 48
DIGIT_9 = 57

# No number of a text may be above 256: one with more digits is wrong whatever
# it is, and isn't worked out, as it may be as long as the text.
MOST_DIGITS = 3


def text_of(strip):
    lines = [HEAD + str(strip.width)]
    for count, tracks in runs_of(strip):
        lines.append(" ".join([str(number) for number in [count] + tracks]))
    return [ord(sign) for sign in "\n".join(lines) + "\n"]


# A text is no strip's text; the place is the first one that can't be.
class Fault(Exception):
    def __init__(self, place):
        self.place = place


# Goes through a text from the left. Its place moves only past what is right,
# so wherever something is wrong, its place is the fault's.
class Reader:
    def __init__(self, text):
        self.text = text
        self.place = 0

    def at_end(self):
        return self.place == len(self.text)

    def sees(self, byte):
        return not self.at_end() and self.text[self.place] == byte

    def take(self, byte):
        if not self.sees(byte):
            raise Fault(self.place)
        self.place += 1

    def digits_here(self):
        end = self.place
        while end < len(self.text) and DIGIT_0 <= self.text[end] <= DIGIT_9:
            end += 1
        return self.text[self.place:end]

    def take_number(self, lowest, highest):
        digits = self.digits_here()
        if not is_number(digits) or not lowest <= value_of(digits) <= highest:
            raise Fault(self.place)
        self.place += len(digits)
        return value_of(digits)


def is_number(digits):
    if len(digits) == 0 or len(digits) > MOST_DIGITS:
        return False
    return len(digits) == 1 or digits[0] != DIGIT_0


def value_of(digits):
    value = 0
    for digit in digits:
        value = value * 10 + digit - DIGIT_0
    return value


def strip_of_text(text):
    reader = Reader(text)
    for sign in HEAD:
        reader.take(ord(sign))
    width = reader.take_number(1, MOST_WIDTH)
    reader.take(LINE_END)
    rows = []
    while not reader.at_end():
        rows = rows + take_run(reader, width, rows)
    return Strip(width, rows)


def take_run(reader, width, rows_before):
    count = reader.take_number(1, MOST_ROWS - len(rows_before))
    tracks = take_tracks(reader, width)
    if len(rows_before) > 0 and rows_before[-1] == tracks:
        raise Fault(reader.place)
    reader.take(LINE_END)
    return [tracks] * count


def take_tracks(reader, width):
    tracks = []
    lowest = 0
    while reader.sees(BLANK):
        reader.take(BLANK)
        track = reader.take_number(lowest, width - 1)
        tracks.append(track)
        lowest = track + 1
    return tracks
