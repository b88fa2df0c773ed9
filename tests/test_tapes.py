"""Tapes: points 3, 11 and 20."""

import random
import unittest

from movedstates.errors import BadLine
from movedstates.tapes import read_tape, write_tape

DEEDS = [("event", "a", 4, 9), ("raise", -6), ("yard", (0, 3, 5)), ("event", "abcdefgh", -1, -20), ("yard", (2,)),
         ("yard", (0, 1, 2, 3, 4, 5)), ("raise", 0), ("event", "finish", 10 ** 23, 0), ("finish",)]
TEXT = ("event a 4 9\nraise -6\nyard 0 3 5\nevent abcdefgh -1 -20\nyard 2\nyard 0 1 2 3 4 5\nraise 0\n"
        "event finish 100000000000000000000000 0\nfinish")
WRONG_LINES = [
    "", " ", "a", "Event a 1 2", "events a 1 2", "finished", "event", "event a", "event a 1", "event a 1 2 3",
    "event  a 1 2", "event a  1 2", " event a 1 2", "event a 1 2 ", "event a 1 ", "event A 1 2", "event a1 1 2",
    "event abcdefghi 1 2", "event 1 1 2", "event a x 2", "event a 1 x", "event a +1 2", "event a 01 2", "event a 1 -0",
    "event a 1 2.0", "event a 1,2", "event a 1\t2", "raise", "raise ", "raise x", "raise 1 2", "raise  1", "raise 01",
    "raise -0", " raise 1", "raise 1 ", "yard", "yard ", "yard x", "yard 6", "yard -1", "yard -1 0", "yard 0 6", "yard 1 0", "yard 0 0",
    "yard 0 1 1", "yard 00", "yard 0  1", "yard 0 1 ", " yard 0", "yard 0 1 2 3 4 5 6", "yard 0 1 2 3 4 5 5",
    "yard 0,1", "finish 1", "finish ", " finish", "finish finish", "take 1",
]


class WriteTest(unittest.TestCase):

    def test_each_deed(self):
        self.assertEqual(write_tape(DEEDS), TEXT)

    def test_no_deeds(self):
        self.assertEqual(write_tape([]), "")

    def test_the_list_stays(self):
        deeds = list(DEEDS)
        write_tape(deeds)
        self.assertEqual(deeds, DEEDS)


class ReadTest(unittest.TestCase):

    def test_each_deed(self):
        self.assertEqual(read_tape(TEXT), DEEDS)

    def test_no_deeds(self):
        found = read_tape("")
        self.assertEqual(found, [])
        found.append(1)
        self.assertEqual(read_tape(""), [])

    def test_written_and_read_back(self):
        source = random.Random(20)
        for _ in range(100):
            deeds = []
            for _ in range(source.randint(0, 12)):
                workers = tuple(sorted(source.sample(range(6), source.randint(1, 6))))
                deeds.append(source.choice((("event", source.choice(("a", "raise", "zz")), source.randint(-99, 99),
                                             source.randint(-9, 9)), ("raise", source.randint(-99, 99)),
                                            ("yard", workers))))
            if source.random() < 0.5:
                deeds.append(("finish",))
            self.assertEqual(read_tape(write_tape(deeds)), deeds)

    def test_wrong_lines(self):
        for line in WRONG_LINES:
            # The empty text has no line.
            texts = [("raise 1\n" + line, 2), ("raise 1\nyard 0\n" + line + "\nfinish\nfinish", 3)]
            if line != "":
                texts.append((line, 1))
            for text, number in texts:
                with self.subTest(text):
                    with self.assertRaises(BadLine) as caught:
                        read_tape(text)
                    self.assertEqual(caught.exception.number, number)

    def test_the_first_bad_line_counts(self):
        for text, number in (("raise 1\nraise x\nraise y", 2), ("x\ny", 1), ("raise 1\n\n\n", 2)):
            with self.assertRaises(BadLine) as caught:
                read_tape(text)
            self.assertEqual(caught.exception.number, number)

    def test_an_empty_line(self):
        for text, number in (("\n", 1), ("\nraise 1", 1), ("raise 1\n", 2), ("finish\n", 2), ("raise 1\n\nraise 2", 2)):
            with self.assertRaises(BadLine) as caught:
                read_tape(text)
            self.assertEqual(caught.exception.number, number)

    def test_a_line_behind_the_finish(self):
        for text, number in (("finish\nraise 1", 2), ("finish\nfinish", 2), ("raise 1\nfinish\nyard 0\nx", 3)):
            with self.assertRaises(BadLine) as caught:
                read_tape(text)
            self.assertEqual(caught.exception.number, number)


if __name__ == "__main__":
    unittest.main()
