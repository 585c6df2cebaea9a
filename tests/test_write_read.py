"""Point 7: write and read."""

import unittest

from filmcuts.film import Film
from helper import (BEGIN, LENGTH, MOST, REDO, UNDO, WRITE, answered, asked, between, cut, lift, listed, over, piece,
                    pieces_of_one, read, seen, seen_of, source, told, tracks)

START = [BEGIN, source(0, 100), source(1, 50), source(9, 1), source(31, MOST)]
ROWS = [over(0, 0, 0, 20, 10), over(0, 15, 1, 7, 5), over(0, 20, 1, 12, 10), cut(0, 25), over(3, 7, 9, 0, 1),
        over(7, 0, 31, 10000000, 6777216)]
WRITTEN = ("0 20 10\n- 5\n1 7 5\n1 12 5\n1 17 5\n;\n;\n;\n- 7\n9 0 1\n;\n;\n;\n;\n31 10000000 6777216\n;\n")
EMPTY = ";\n" * 8


def first(text):
    """The list whose first track holds these lines and whose others are empty."""
    return (text + EMPTY).encode("ascii")


class Write(unittest.TestCase):
    def test_without_pieces(self):
        self.assertEqual(asked([BEGIN], [WRITE]), [[0] + [59, 10] * 8])

    def test_all_that_can_stand_in_it(self):
        self.assertEqual(listed(START + ROWS), WRITTEN)

    def test_bytes(self):
        self.assertEqual(asked(START + [over(0, 4, 31, 0, 20)], [WRITE]),
                         [[0, 45, 32, 52, 10, 51, 49, 32, 48, 32, 50, 48, 10] + [59, 10] * 8])

    def test_biggest_numbers(self):
        self.assertEqual(listed(START + [over(0, MOST - 1, 31, MOST - 1, 1)]),
                         "- 16777215\n31 16777215 1\n" + EMPTY)
        self.assertEqual(listed(START + [over(7, 0, 31, 0, MOST)]), ";\n" * 7 + "31 0 16777216\n;\n")

    def test_each_track_in_its_place(self):
        for track in range(8):
            self.assertEqual(listed(START + [over(track, 0, 0, track, 1)]),
                             ";\n" * track + f"0 {track} 1\n;\n" + ";\n" * (7 - track))

    def test_full_tracks(self):
        calls = START + pieces_of_one(0, 256, 2) + pieces_of_one(7, 256, 3, 1)
        self.assertEqual(listed(calls), "0 0 2\n" * 256 + ";\n" * 7 + "1 0 3\n" * 256 + ";\n")

    def test_changes_nothing(self):
        self.assertEqual(listed(START + ROWS + [WRITE, WRITE]), WRITTEN)
        calls = START + ROWS + [UNDO, WRITE, REDO, REDO]
        self.assertEqual(answered(calls)[-2:], [[0], [-61]])


class Read(unittest.TestCase):
    def answer(self, t, ahead=()):
        """What read answers; a refused one must have changed nothing, and any other be an edit."""
        ahead = START + ROWS + list(ahead)
        parts = answered(ahead + [read(t), WRITE, UNDO, WRITE])[len(ahead):]
        self.assertEqual(len(parts[0]), 1)
        if parts[0][0] < 0:
            self.assertEqual(bytes(parts[1][1:]).decode("ascii"), listed(ahead))
            self.assertEqual(listed(ahead + [read(t), UNDO]), listed(ahead + [UNDO]))
            self.assertEqual(listed(ahead + [UNDO, read(t), REDO]), listed(ahead))
        else:
            self.assertEqual(bytes(parts[3][1:]).decode("ascii"), listed(ahead))
            self.assertEqual(told(ahead + [UNDO, read(t), REDO])[-1], -61)
        return parts[0][0]

    def no_list(self, *texts):
        for text in texts:
            with self.subTest(text=text):
                self.assertEqual(self.answer(text if isinstance(text, bytes) else text.encode("latin-1")), -71)

    def same(self, t, expected):
        self.assertEqual(self.answer(t), 0)
        self.assertEqual(listed(START + ROWS + [read(t)]), expected)

    def test_what_is_written_is_read_as_the_same(self):
        for ahead in ([], ROWS, pieces_of_one(0, 256, 2) + pieces_of_one(5, 200, 3, 1), [over(0, 0, 31, 0, MOST)],
                      [over(2, MOST - 1, 0, 5, 1)], ROWS + [lift(0, 3, 8), between(3, 2, 1, 0, 9)]):
            text = listed(START + ahead)
            for before in ([], [over(0, 3, 0, 0, 9), over(6, 0, 1, 0, 3)]):
                calls = START + before + [read(text.encode("ascii"))]
                self.assertEqual(told(calls)[-1], 0)
                self.assertEqual(listed(calls), text)
                self.assertEqual(tracks(calls), tracks(START + ahead))

    def test_what_was_there_is_gone(self):
        self.same(EMPTY.encode("ascii"), EMPTY)
        self.same(first("1 3 4\n"), "1 3 4\n" + EMPTY)

    def test_seen_behind_it(self):
        calls = START + [read(first("0 5 2\n- 1\n1 0 1\n"))]
        self.assertEqual(seen_of(calls, 0, 6), [(0, 5), (0, 6), None, (1, 0), None, None])
        self.assertEqual(asked(calls, [piece(0, 1), piece(0, 3), LENGTH, seen(1, 0)]), [[1, 255, 0, 1], [0], [4], [0]])

    def test_pieces_that_go_on_from_one_another_stay_two(self):
        self.same(first("0 5 2\n0 7 3\n"), "0 5 2\n0 7 3\n" + EMPTY)

    def test_nothing_beside_nothing_and_at_the_end(self):
        self.same(first("- 2\n- 3\n0 0 1\n- 1\n- 1\n- 7\n0 1 1\n"), "- 5\n0 0 1\n- 9\n0 1 1\n" + EMPTY)
        self.same(first("0 0 1\n- 4\n"), "0 0 1\n" + EMPTY)
        self.same(first("0 0 1\n- 4\n- 5\n"), "0 0 1\n" + EMPTY)
        self.same(first("- 4\n"), EMPTY)
        self.same((";\n" * 7 + "- 4\n- 1\n;\n").encode("ascii"), EMPTY)

    def test_empty(self):
        self.no_list("", "\n", ";", ";\n")

    def test_end_of_the_last_line(self):
        self.no_list(EMPTY[:-1], WRITTEN[:-1], EMPTY + "\n", EMPTY + ";", EMPTY + "0 0 1\n", EMPTY + "- 1\n",
                     EMPTY + " ", EMPTY + "0", "\n" + EMPTY)

    def test_7_and_9_tracks(self):
        self.no_list(";\n" * 7, ";\n" * 9, ";\n" * 6, ";\n" * 16, ";\n" * 7 + "0 0 1\n", ";\n" * 7 + ";")

    def test_line_of_the_track_end(self):
        self.no_list(*[part + ";\n" * 7 for part in (";;\n", " ;\n", "; \n", "0 0 1;\n", ";0 0 1\n", "- 1;\n", "\n;\n",
                                                     ";\n\n", ";\r\n", ":\n", "0 0 1\n\n;\n")])

    def test_blanks(self):
        self.no_list(*[first(line + "\n") for line in (
            " 0 0 1", "0 0 1 ", "0  0 1", "0 0  1", "00 1", "0 01", "001", "0 0 1 1", "0 0", "0", " ", "  ", "0 0 ",
            " 0 1", "- 1 ", " - 1", "-  1", "-1", "-", "- ", "- 1 1", "- - 1", "0 - 1", "- 0 1", "0 0 -", "--  1",
            "-- 1", "0\t0\t1", "0 0\n1", "- \n1", "0 \n0 1")])

    def test_digits(self):
        self.same(first("0 0 10\n"), "0 0 10\n" + EMPTY)
        self.no_list(*[first(line + "\n") for line in (
            "00 0 1", "0 00 1", "0 0 01", "01 0 1", "0 05 1", "- 01", "- 00", "0 0 00", "+0 0 1", "0 +0 1", "0 -0 1",
            "0 -1 1", "0 0 -1", "- -1", "- +1", "0 0 1_0", "0 0 1.", "0x0 0 1", "a 0 1", "0 a 1", "0 0 a", "- a")])

    def test_8_and_9_digits(self):
        for line in ("12345678 0 1", "0 12345678 1", "0 0 12345678", "99999999 99999999 99999999"):
            self.assertEqual(self.answer(first(line + "\n")), -2)
        self.assertEqual(self.answer(first("- 99999999\n0 0 1\n")), -28)
        self.no_list(*[first(line + "\n") for line in (
            "123456789 0 1", "0 123456789 1", "0 0 123456789", "- 123456789", "- 100000000", "000000000 0 1",
            "0 0 000000001", "00000000 0 1", "0 00000000 1", "0 0 00000001", "- 00000001",
            "0 0 1" + "0" * 5000)])
        self.same(first("31 16777215 1\n"), "31 16777215 1\n" + EMPTY)
        self.same(first("31 0 16777216\n"), "31 0 16777216\n" + EMPTY)

    def test_other_bytes(self):
        good = first("0 0 1\n- 2\n1 3 4\n")
        signs = b"0123456789 -;\n"
        for byte in range(256):
            if byte in signs:
                continue
            sign = bytes([byte])
            for t in (sign + good, good + sign, good.replace(b"0", sign, 1), good.replace(b"\n", sign, 1),
                      good.replace(b" ", sign, 1), good.replace(b"-", sign), good.replace(b";", sign, 1), sign,
                      first("") + sign + b"\n", sign + b"\n" + first("")):
                self.assertEqual(told(START + [read(t)])[-1], -71, t)

    def test_bytes_like_digits_and_blanks_elsewhere(self):
        for byte in (9, 11, 12, 13, 28, 29, 30, 31, 133, 160, 178, 179, 185, 255, 0):
            for t in (b"0 0 " + bytes([byte]) + b"\n", b"0" + bytes([byte]) + b"0 1\n", b"0 0 1" + bytes([byte]),
                      b"0 0 1" + bytes([byte]) + b"\n"):
                self.assertEqual(told(START + [read(t + first(""))])[-1], -71, t)

    def test_no_frames(self):
        for line in ("0 0 0", "0 50 0", "0 100 0", "- 0", "31 16777216 0"):
            self.assertEqual(self.answer(first(line + "\n")), -2)
            self.assertEqual(self.answer(first("0 0 1\n" + line + "\n0 1 1\n")), -2)
            self.assertEqual(self.answer((";\n" * 7 + line + "\n;\n").encode("ascii")), -2)
        self.assertEqual(self.answer(first("- 3\n- 0\n- 3\n")), -2)

    def test_source_that_is_not_there(self):
        for number in (2, 30, 32, 255, 256, 99999999):
            self.assertEqual(self.answer(first(f"{number} 0 1\n")), -2)
            self.assertEqual(self.answer(first(f"0 0 1\n{number} 0 1\n")), -2)

    def test_frames_that_the_source_has_not_got(self):
        for line, answer in (("0 0 100", 0), ("0 0 101", -2), ("0 99 1", 0), ("0 99 2", -2), ("0 100 1", -2),
                             ("9 0 1", 0), ("9 0 2", -2), ("9 1 1", -2), ("31 1 16777215", 0), ("31 1 16777216", -2),
                             ("31 16777216 1", -2), ("31 0 16777217", -2)):
            self.assertEqual(self.answer(first(line + "\n")), answer, line)

    def test_sources_that_came_or_went(self):
        text = first("5 0 3\n")
        self.assertEqual(told(START + [read(text), source(5, 3), read(text), BEGIN, read(text)])[-5:],
                         [-2, 0, 0, 0, -2])

    def test_too_many_pieces(self):
        self.same(first("0 0 1\n" * 256), "0 0 1\n" * 256 + EMPTY)
        self.assertEqual(self.answer(first("0 0 1\n" * 257)), -28)
        self.assertEqual(self.answer(first("- 1\n0 0 1\n" * 128)), 0)
        self.assertEqual(self.answer(first("- 1\n0 0 1\n" * 128 + "0 0 1\n")), -28)
        self.assertEqual(self.answer((";\n" * 7 + "0 0 1\n" * 257 + ";\n").encode("ascii")), -28)

    def test_nothing_counts_as_the_pieces_that_it_comes_to(self):
        self.same(first("0 0 1\n" * 256 + "- 1\n" * 9), "0 0 1\n" * 256 + EMPTY)
        self.same(first("- 1\n" * 300 + "0 0 1\n" * 255), "- 300\n" + "0 0 1\n" * 255 + EMPTY)
        self.same(first("0 0 1\n- 99999999\n"), "0 0 1\n" + EMPTY)

    def test_too_many_frames(self):
        self.same(first("- 16777215\n0 0 1\n"), "- 16777215\n0 0 1\n" + EMPTY)
        self.assertEqual(self.answer(first("- 16777216\n0 0 1\n")), -28)
        self.assertEqual(self.answer(first("31 0 16777216\n0 0 1\n")), -28)
        self.assertEqual(self.answer(first("31 0 16777215\n0 0 1\n")), 0)
        self.assertEqual(self.answer(first("- 9999999\n- 9999999\n0 0 1\n")), -28)
        self.assertEqual(self.answer((";\n" * 7 + "31 0 16777216\n31 0 16777216\n;\n").encode("ascii")), -28)

    def test_tracks_are_counted_each_by_itself(self):
        text = "31 0 16777216\n;\n" * 8
        self.same(text.encode("ascii"), text)
        text = ("0 0 1\n" * 256 + ";\n") * 8
        self.same(text.encode("ascii"), text)

    def test_first_named_is_answered(self):
        too_many = "0 0 1\n" * 257
        for wrong in ("2 0 1\n", "0 0 0\n", "- 0\n", "0 0 101\n"):
            for text in (too_many + wrong, wrong + too_many, "- 16777216\n" + wrong + "0 0 1\n"):
                self.assertEqual(self.answer(first(text)), -2)
            self.assertEqual(self.answer((too_many + ";\n" + wrong + ";\n" * 7).encode("ascii")), -2)
            self.assertEqual(self.answer((";\n" * 6 + wrong + ";\n" + too_many + ";\n").encode("ascii")), -2)
            self.no_list(first(wrong + "x\n"), first(wrong) + b";\n", first(too_many + wrong)[:-1],
                         first(wrong)[:-2], first("0  0 1\n" + wrong))
        self.no_list(first(too_many) + b"\n", first(too_many)[:-1], first("0 0\n" + too_many))

    def test_29900_bytes(self):
        text = "0 0 1\n" * 256 + ";\n"
        whole = text * 7 + ";\n"
        more = (29900 - len(whole)) // 4
        t = (text * 7 + "- 1\n" * more + ";\n").encode("ascii")
        t = t.replace(b"- 1\n", b"- " + b"1" * (1 + 29900 - len(t)) + b"\n", 1)
        self.assertEqual(len(t), 29900)
        calls = [BEGIN, source(0, 1), read(t)]
        self.assertEqual(told(calls), [0, 0, 0])
        self.assertEqual(listed(calls), text * 7 + ";\n")
        self.assertEqual(told(calls[:2] + [read(t[:-1]), read(t[:-2])]), [0, 0, -71, -71])
        for byte in b"\n;0- x":
            self.assertEqual(told([BEGIN, read(bytes([byte]) * 29900)]), [0, -71])

    def test_more_bytes_than_may_be(self):
        # Longer than any list that can be handed in, so asked of the film itself.
        film = Film()
        film.add_source(0, 1)
        t = list(b"- 1\n" * 16380 + b";\n" * 8)
        self.assertEqual(len(t), 65536)
        self.assertEqual(film.read(t), 0)
        self.assertEqual(film.read(t + [10]), -22)
        self.assertEqual(film.read([0] * 65536), -71)
        self.assertEqual(film.read([0] * 65537), -22)

    def test_read_is_one_edit(self):
        calls = START + ROWS + [read(first("0 0 1\n"))] + [UNDO] * (len(ROWS) + 2)
        self.assertEqual(told(calls)[-2:], [0, -61])
        self.assertEqual(told(START + ROWS + [read(WRITTEN.encode("ascii")), UNDO, UNDO])[-2:], [0, 0])
        self.assertEqual(listed(START + ROWS + [read(WRITTEN.encode("ascii")), UNDO]), WRITTEN)
        self.assertEqual(listed(START + ROWS + [read(first("0 0 1\n")), UNDO, REDO]), "0 0 1\n" + EMPTY)

    def test_sources_stay(self):
        calls = START + [read(first("0 0 1\n")), source(0, 5), source(1, 5), source(2, 5), over(0, 0, 31, 9, 1)]
        self.assertEqual(told(calls)[-4:], [-17, -17, 0, 0])


if __name__ == "__main__":
    unittest.main()
