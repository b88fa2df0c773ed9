"""Crews: point 51, with 3."""

import unittest

from movedstates.crews import Crew
from movedstates.errors import BadCrew, BadLine, BadName, DuplicateName, UnknownName

WORKERS = [("k", "a"), ("l", "b"), ("m", "q"), ("n", "q")]
TEXT = "worker k make a\nworker l make b\nworker m make q\nworker n make q"
NOT_NAMES = ["", "K", "abcdefghi", "a b", "a1", " a", None, 0, ("a",), ["a"], b"a", object()]


class MadeTest(unittest.TestCase):

    def test_workers(self):
        crew = Crew(WORKERS)
        self.assertEqual(list(crew), WORKERS)
        self.assertEqual(len(crew), 4)
        self.assertEqual([crew.name_of(worker) for worker in range(4)], ["k", "l", "m", "n"])
        self.assertEqual([crew.make_of(worker) for worker in range(4)], ["a", "b", "q", "q"])
        self.assertEqual([crew.number_of(name) for name in "klmn"], [0, 1, 2, 3])
        self.assertEqual(Crew.MOST, 6)

    def test_one_and_six_workers(self):
        self.assertEqual(list(Crew([("x", "x")])), [("x", "x")])
        six = [(name, "m") for name in "fedcba"]
        self.assertEqual(list(Crew(six)), six)

    def test_names_of_workers_and_makes(self):
        workers = [("worker", "make"), ("make", "worker"), ("abcdefgh", "make")]
        self.assertEqual(list(Crew(workers)), workers)

    def test_own_copy(self):
        workers = list(WORKERS)
        crew = Crew(workers)
        self.assertEqual(workers, WORKERS)
        workers.append(("o", "o"))
        workers[0] = ("x", "x")
        list(crew).clear()
        self.assertEqual(list(crew), WORKERS)

    def test_bad_crew(self):
        for workers in ([], [(name, "m") for name in "abcdefg"], [("A", "m")] * 7):
            with self.assertRaises(BadCrew):
                Crew(workers)

    def test_bad_names(self):
        for thing in NOT_NAMES:
            for workers in ([(thing, "m")], [("a", thing)], [("a", "m"), (thing, thing)], [("a", "m"), ("b", thing), ("A", "m")]):
                with self.assertRaises(BadName) as caught:
                    Crew(workers)
                self.assertIs(caught.exception.name, thing)

    def test_the_name_comes_ahead_of_the_make(self):
        with self.assertRaises(BadName) as caught:
            Crew([("A", "B")])
        self.assertEqual(caught.exception.name, "A")

    def test_duplicate_names(self):
        with self.assertRaises(DuplicateName) as caught:
            Crew([("a", "m"), ("b", "m"), ("b", "n"), ("a", "m")])
        self.assertEqual(caught.exception.name, "b")

    def test_the_first_bad_worker(self):
        cases = [([("a", "m"), ("a", "m"), ("B", "m")], DuplicateName), ([("a", "m"), ("B", "m"), ("a", "m")], BadName),
                 ([("a", "m"), ("a", "M")], BadName)]
        for workers, error in cases:
            with self.assertRaises(error):
                Crew(workers)

    def test_unknown_names(self):
        crew = Crew(WORKERS)
        for name in ("a", "q", "K", "", "kk"):
            with self.assertRaises(UnknownName) as caught:
                crew.number_of(name)
            self.assertEqual(caught.exception.name, name)

    def test_equality(self):
        crew = Crew(WORKERS)
        self.assertIs(crew == Crew(list(WORKERS)), True)
        self.assertIs(crew != Crew(list(WORKERS)), False)
        for other in (Crew(WORKERS[::-1]), Crew(WORKERS[:3]), Crew(WORKERS[:3] + [("n", "p")]), Crew(WORKERS[:3] + [("o", "q")])):
            self.assertIs(crew == other, False)
            self.assertIs(crew != other, True)
        for thing in (WORKERS, TEXT, None, 4, object()):
            self.assertIs(crew == thing, False)

    def test_methods_stand_in_the_class(self):
        for name in ("__init__", "read", "write", "__len__", "__iter__", "__eq__", "name_of", "make_of", "number_of", "MOST"):
            self.assertIn(name, vars(Crew))


class TextTest(unittest.TestCase):

    def test_read_and_written(self):
        self.assertEqual(Crew.read(TEXT), Crew(WORKERS))
        self.assertEqual(Crew(WORKERS).write(), TEXT)
        for text in ("worker worker make make", "worker a make a\nworker b make a", TEXT + "\nworker o make o\nworker p make o"):
            self.assertEqual(Crew.read(text).write(), text)

    def check(self, text, number):
        with self.subTest(text):
            with self.assertRaises(BadLine) as caught:
                Crew.read(text)
            self.assertEqual(caught.exception.number, number)

    def test_lines_of_another_form(self):
        wrong = ["", " ", "worker", "worker k", "worker k make", "worker k make a ", " worker k make a", "worker  k make a",
                 "worker k  make a", "worker k make  a", "worker K make a", "worker k make A", "worker k make a b", "workers k make a",
                 "worker k makes a", "worker abcdefghi make a", "worker k make abcdefghi", "worker k make 1", "worker 1 make a",
                 "make a worker k", "k make a", "worker  make a", "worker k make ", "Worker k make a", "worker k make\ta"]
        for line in wrong:
            if line != "":
                self.check(line, 1)
            self.check("worker x make x\n" + line, 2)
            self.check("worker x make x\nworker y make x\n" + line + "\nworker", 3)

    def test_a_double_name(self):
        self.check("worker a make m\nworker b make m\nworker a make n", 3)
        self.check("worker a make m\nworker a make m\nwork", 2)

    def test_a_seventh_line(self):
        lines = [f"worker {name} make m" for name in "abcdefgh"]
        self.assertEqual(len(Crew.read("\n".join(lines[:6]))), 6)
        self.check("\n".join(lines[:7]), 7)
        self.check("\n".join(lines), 7)
        self.check("\n".join(lines[:6] + ["x"]), 7)

    def test_the_empty_text(self):
        self.check("", 1)

    def test_a_last_line_feed(self):
        self.check("worker a make m\n", 2)
        self.check(TEXT + "\n", 5)
        self.check("\n", 1)


if __name__ == "__main__":
    unittest.main()
