"""read: strips' texts and the faults of texts that are none."""

import itertools
import re
import unittest

from tests.helper import EXAMPLE, alone, ask, ask_last, read, row, size, text_of_rows


def fault(given):
    """The fault's place that read tells, or None if it makes a strip."""
    number, listed, told = ask_last(read(given))
    if number == 0:
        assert (listed, told) == ([], "")
        return None
    assert (number, len(listed), told) == (-6, 1, ""), (given, number, listed, told)
    return listed[0]


class Made(unittest.TestCase):
    def test_example(self):
        self.assertEqual(
            ask(read(EXAMPLE), size(0), row(0, 0), row(0, 1), row(0, 2), row(0, 3)),
            [alone(0), (0, [4, 4, 3], ""), (2, [0, 3], ""), (2, [0, 3], ""), alone(0), (1, [0], "")])

    def test_no_rows(self):
        self.assertEqual(ask(read("strip 88\n"), size(0)), [alone(0), (0, [88, 0, 0], "")])

    def test_widths_1_and_128(self):
        for width in (1, 128):
            given = "strip %d\n1 %d\n" % (width, width - 1)
            self.assertEqual(ask(read(given), row(0, 0))[1], (1, [width - 1], ""))

    def test_every_width(self):
        for width in range(1, 129):
            self.assertIsNone(fault("strip %d\n" % width))

    def test_256_rows_in_one_run_and_in_many(self):
        self.assertEqual(ask(read("strip 4\n256\n"), size(0))[1], (0, [4, 256, 1], ""))
        self.assertEqual(ask(read("strip 4\n" + "1 0\n1 1\n" * 128), size(0))[1], (0, [4, 256, 256], ""))

    def test_a_run_like_the_one_before_the_one_before(self):
        self.assertIsNone(fault("strip 4\n1 0\n1\n1 0\n1\n"))

    def test_all_tracks_have_holes(self):
        given = "strip 128\n1 " + " ".join(str(track) for track in range(128)) + "\n"
        self.assertEqual(ask(read(given), row(0, 0))[1], (128, list(range(128)), ""))


class DocumentsFaults(unittest.TestCase):
    def test_as_they_stand(self):
        for given, place in [("strip 4\n2 0 0\n", 12), ("strip 4\n1\n2\n", 11), ("strip 129\n", 6), ("strip 4", 7),
                             ("strip 4\n1 4\n", 10), ("", 0), ("strip 4\n257\n", 8)]:
            self.assertEqual(fault(given), place, given)


class Faults(unittest.TestCase):
    def check(self, cases):
        for given, place in cases:
            self.assertEqual(fault(given), place, given)

    def test_the_word_strip(self):
        whole = "strip "
        for place in range(6):
            self.check([(whole[:place], place), (whole[:place] + "x" + whole[place + 1:] + "4\n", place),
                        (whole[:place] + "\n", place), (whole[:place] + "\x00", place)])
        self.check([("Strip 4\n", 0), (" strip 4\n", 0), ("strips 4\n", 5), ("strip\t4\n", 5)])

    def test_width(self):
        self.check([("strip ", 6), ("strip \n", 6), ("strip x\n", 6), ("strip  4\n", 6), ("strip -4\n", 6),
                    ("strip 0\n", 6), ("strip 129\n", 6), ("strip 129", 6), ("strip 1000\n", 6),
                    ("strip 4294967300\n", 6)])

    def test_needless_0_before_the_width(self):
        self.check([("strip 04\n", 6), ("strip 00\n", 6), ("strip 0128\n", 6), ("strip 004", 6)])

    def test_line_end_behind_the_width(self):
        self.check([("strip 4", 7), ("strip 128", 9), ("strip 4 \n", 7), ("strip 4x\n", 7), ("strip 4\r\n", 7),
                    ("strip 4 1\n", 7)])

    def test_how_many_rows(self):
        self.check([("strip 4\nx\n", 8), ("strip 4\n\n", 8), ("strip 4\n 1\n", 8), ("strip 4\n0\n", 8),
                    ("strip 4\n257\n", 8), ("strip 4\n1000 0\n", 8), ("strip 4\n-1\n", 8)])

    def test_needless_0_before_the_rows(self):
        self.check([("strip 4\n01\n", 8), ("strip 4\n00\n", 8), ("strip 4\n1 0\n02 1\n", 12)])

    def test_rows_left(self):
        self.check([("strip 4\n250\n6 0\n", None), ("strip 4\n250\n7 0\n", 12), ("strip 4\n255\n1 0\n", None),
                    ("strip 4\n255\n2 0\n", 12), ("strip 4\n100\n100 1\n57 0\n", 18)])

    def test_no_row_left(self):
        whole = "strip 4\n256\n"
        for more in ("1 0\n", "0", "x", " ", "\n", "999"):
            self.check([(whole + more, len(whole))])
        whole = "strip 4\n" + "1 0\n1 1\n" * 128
        self.check([(whole, None), (whole + "1 2\n", len(whole))])

    def test_behind_the_rows(self):
        self.check([("strip 4\n1", 9), ("strip 4\n12", 10), ("strip 4\n1x\n", 9), ("strip 4\n1\t0\n", 9)])

    def test_track(self):
        self.check([("strip 4\n1 ", 10), ("strip 4\n1 \n", 10), ("strip 4\n1  0\n", 10), ("strip 4\n1 x\n", 10),
                    ("strip 4\n1 4\n", 10), ("strip 4\n1 3\n", None), ("strip 128\n1 127\n", None),
                    ("strip 128\n1 128\n", 12), ("strip 128\n1 1000\n", 12), ("strip 4\n1 0 ", 12),
                    ("strip 4\n1 0x", 11), ("strip 4\n1 0", 11), ("strip 4\n1 0 1 \n", 14)])

    def test_needless_0_before_a_track(self):
        self.check([("strip 4\n1 00\n", 10), ("strip 4\n1 01\n", 10), ("strip 4\n1 0 01\n", 12),
                    ("strip 4\n1 0 3\n", None)])

    def test_tracks_rise(self):
        self.check([("strip 12\n1 2 2\n", 13), ("strip 12\n1 2 1\n", 13), ("strip 12\n1 10 9\n", 14),
                    ("strip 12\n1 9 10\n", None), ("strip 12\n1 11\n1 0\n", None)])

    def test_no_track_left(self):
        for more, place in [(" ", 12), (" \n", 12), (" 4\n", 12), (" 3\n", 12), (" x", 12), ("  ", 12), ("x", 11)]:
            self.check([("strip 4\n1 3" + more, place)])

    def test_holes_of_the_run_before(self):
        self.check([("strip 4\n1\n2\n", 11), ("strip 4\n1\n2", 11), ("strip 4\n1 0 3\n12 0 3\n", 20),
                    ("strip 4\n1 0\n1 0 1\n", None), ("strip 4\n1 0 1\n1 0\n", None), ("strip 4\n1 3\n1 3 \n", 16),
                    ("strip 4\n1 0\n1 0x", 15), ("strip 4\n1 0\n1 1\n1 1\nx", 19)])

    def test_missing_line_end_at_the_end(self):
        self.check([("strip 4\n2 0 3\n1\n1 0", 19), ("strip 4\n2 0 3\n1", 15), ("strip 4\n2 0 3", 13)])

    def test_an_empty_line_at_the_end(self):
        self.check([(EXAMPLE + "\n", len(EXAMPLE))])

    def test_bytes_that_are_no_digits(self):
        for byte in (0, 9, 13, 31, 33, 47, 58, 128, 178, 255):
            for place in range(len(EXAMPLE)):
                given = [ord(sign) for sign in EXAMPLE]
                given[place] = byte
                self.assertEqual(fault(given), place, (byte, place))

    def test_every_piece_of_the_example(self):
        ends = [place + 1 for place, sign in enumerate(EXAMPLE) if sign == "\n"]
        for length in range(len(EXAMPLE) + 1):
            self.assertEqual(fault(EXAMPLE[:length]), None if length in ends else length)

    def test_number_as_long_as_the_text(self):
        self.check([("strip " + "1" * 28000, 6), ("strip 4\n" + "0" * 28000, 8), ("strip 4\n1 " + "2" * 28000, 10)])


class TooLong(unittest.TestCase):
    def whole(self, last_count):
        # Lines of 400 and 404 bytes by turns, and one of 402: 65,536 bytes with the first line.
        rows = [list(range(127)), list(range(128))] * 81 + [list(range(1, 128))]
        given = text_of_rows(128, rows)
        assert len(given) == 65536
        place = given.rindex("\n", 0, -1) + 1
        return given[:place] + last_count + given[place + 1:]

    def test_65536_bytes_are_read(self):
        self.assertEqual(ask_last(read(self.whole("1")), size(0)), (0, [128, 163, 163], ""))

    def test_one_more_is_refused(self):
        self.assertEqual(ask(read(self.whole("10")), size(0)), [alone(-2), alone(-4)])

    def test_too_long_comes_before_a_fault(self):
        self.assertEqual(ask(read([0] * 65537)), [alone(-2)])
        self.assertEqual(ask(read([0] * 65536)), [(-6, [0], "")])
        self.assertEqual(ask(read(self.whole("1")[:-1] + " ")), [(-6, [65536], "")])


def expected_fault(given):
    """The fault by the document's words, token by token; None for a strip's text."""
    tokens = [(found.group(), found.start()) for found in re.finditer(r"\d+|\D", given)] + [("", len(given))]
    head, rest = tokens[:6], tokens[6:]
    for wanted, (token, place) in zip("strip ", head):
        if token != wanted:
            return place

    def bad(token, allowed):
        return not token.isdigit() or token != str(int(token)) or int(token) not in allowed

    width = rest.pop(0)
    if bad(width[0], range(1, 129)):
        return width[1]
    line_end = rest.pop(0)
    if line_end[0] != "\n":
        return line_end[1]
    left, before = 256, None
    while rest[0][0] != "":
        count = rest.pop(0)
        if bad(count[0], range(1, left + 1)):
            return count[1]
        left -= int(count[0])
        tracks = []
        while rest[0][0] == " ":
            rest.pop(0)
            track = rest[0]
            if bad(track[0], [t for t in range(int(width[0])) if not tracks or t > tracks[-1]]):
                return track[1]
            tracks.append(int(rest.pop(0)[0]))
        if rest[0][0] != "\n" or tracks == before:
            return rest[0][1]
        rest.pop(0)
        before = tracks
    return None


class EveryShortText(unittest.TestCase):
    def check_all(self, head, signs, length):
        for count in range(length + 1):
            for tail in itertools.product(signs, repeat=count):
                given = head + "".join(tail)
                self.assertEqual(fault(given), expected_fault(given), repr(given))

    def test_behind_a_width(self):
        self.check_all("strip 2\n", "01 \n", 6)

    def test_behind_a_run(self):
        self.check_all("strip 3\n254 1\n", "012 \n", 5)

    def test_from_the_width_on(self):
        self.check_all("strip ", "0128 \n", 5)

    def test_example_with_one_byte_changed_left_out_or_put_in(self):
        for place in range(len(EXAMPLE) + 1):
            for sign in "0123 \nsx":
                for given in (EXAMPLE[:place] + sign + EXAMPLE[place:], EXAMPLE[:place] + sign + EXAMPLE[place + 1:],
                              EXAMPLE[:place] + EXAMPLE[place + 1:]):
                    self.assertEqual(fault(given), expected_fault(given), repr(given))
