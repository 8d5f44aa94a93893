"""portolan.papertexts: point 4.5."""

import random
import unittest

from portolan import formulas as f
from portolan.errors import InvalidText
from portolan.papers import paper_for
from portolan.papers import paper_holds
from portolan.papertexts import read_paper
from portolan.papertexts import write_paper

from tests.samples import random_formula

FORMULA = (("number", -1, 3), ("pi",), ("times", 0, 1), ("root", 1))
PAPER = (8, ((-86, -85), (804, 805), (-271, -266), (453, 455)))
TEXT = "paper 8\nnumber -1 3 : -86 -85\npi : 804 805\ntimes 0 1 : -271 -266\nroot 1 : 453 455\n"


class Texts(unittest.TestCase):
    def there_and_back(self, formula, paper):
        text = write_paper(formula, paper)
        self.assertTrue(text.endswith("\n"))
        self.assertEqual(len(text.split("\n")), len(formula) + 2)
        found = read_paper(text)
        self.assertEqual(found, (formula, paper))
        self.assertEqual(write_paper(*found), text)
        self.assertIsInstance(found, tuple)
        self.assertIsInstance(found[0], tuple)
        self.assertIsInstance(found[1], tuple)
        self.assertIsInstance(found[1][1], tuple)

    def test_example(self):
        self.assertEqual(write_paper(FORMULA, PAPER), TEXT)
        self.assertEqual(read_paper(TEXT), (FORMULA, PAPER))
        self.there_and_back(FORMULA, PAPER)

    def test_each_word(self):
        steps = [("number", 7, 2), ("pi",)]
        for word, count in f.COUNTS.items():
            if word not in ("number", "pi"):
                steps.append((word, 1, 0)[:count + 1])
        enclosures = tuple((k - 9, k) for k in range(len(steps)))
        self.there_and_back(tuple(steps), (4096, enclosures))

    def test_papers_made_here(self):
        chance = random.Random(1)
        for _ in range(40):
            formula = random_formula(chance, chance.randint(1, 20))
            paper = paper_for(formula, 100)
            self.there_and_back(formula, paper)
            self.assertTrue(paper_holds(*read_paper(write_paper(formula, paper))))

    def test_papers_that_do_not_hold(self):
        self.there_and_back((("pi",),), (8, ((-5, 0),)))
        self.there_and_back((("number", 0, 1), ("divide", 0, 0)), (4096, ((7, 7), (0, 0))))

    def test_long_numbers(self):
        long = 10 ** 2000 - 1
        self.there_and_back((("number", -long, long),), (4096, ((-long, long),)))
        self.there_and_back((("number", 10 ** 1999, 1),), (8, ((10 ** 1999, 10 ** 1999),)))
        for text in (f"paper 8\nnumber 1{'0' * 2000} 1 : 0 1\n", f"paper 8\nnumber 1 1{'0' * 2000} : 0 1\n",
                     f"paper 8\nnumber 1 1 : -1{'0' * 2000} 1\n", f"paper 8\nnumber 1 1 : 0 1{'0' * 2000}\n",
                     f"paper 8\nnumber 1 1 : 0 {'9' * 5000}\n"):
            self.refused(text)

    def refused(self, text):
        with self.subTest(text[:200]):
            with self.assertRaises(InvalidText):
                read_paper(text)

    def test_first_line(self):
        rest = TEXT[len("paper 8\n"):]
        for line in ("", "paper", "paper ", "paper 8 ", " paper 8", "paper  8", "Paper 8", "papers 8", "paper 8 8",
                     "paper 08", "paper +8", "paper 8.0", "paper x", "paper -8", "paper 0x8", "paper\t8", "8",
                     "8 paper", "paper8", "paper 8\r", "\ufeffpaper 8", "paper \u0668"):
            self.refused(line + "\n" + rest)
        self.refused(rest)
        self.refused("\n" + TEXT)

    def test_bits(self):
        rest = TEXT[len("paper 8\n"):]
        for bits in (8, 9, 100, 4095, 4096):
            self.assertEqual(read_paper(f"paper {bits}\n{rest}"), (FORMULA, (bits, PAPER[1])))
        for bits in ("7", "0", "1", "-8", "4097", "10000", "08", "-0", "+9", "1" + "0" * 4000):
            self.refused(f"paper {bits}\n{rest}")

    def test_rows(self):
        for line in ("", " ", "pi", "pi :", "pi : 1", "pi : 1 2 3", "pi: 1 2", "pi :1 2", "pi 1 2", "pi : 1  2",
                     "pi  : 1 2", "pi :  1 2", " pi : 1 2", "pi : 1 2 ", "pi 0 : 1 2", "pi : 2 1", "pi : : 1 2",
                     ": 1 2", " : 1 2", "PI : 1 2", "tau : 1 2", "number : 1 2", "number 1 : 1 2",
                     "number 1 2 3 : 1 2", "number 1 0 : 1 2", "number 1 -1 : 1 2", "number 1 2 : 1 0",
                     "number 1 2 ; 1 2", "number 1/2 : 1 2", "number 1 2 : 1 2 : 3", "pi\t: 1 2", "pi : 1\t2",
                     "pi : 1 2\r", "pi : one two", "pi : 1, 2", "pi : 1 2.0", "pi : 1_0 20", "pi : 0x1 2",
                     "pi : (1, 2)", "root 0 : 1 2", "add 0 0 : 1 2", "sine 1 : 1 2", "root -1 : 1 2"):
            self.refused(f"paper 8\n{line}\n")

    def test_steps_that_do_not_fit(self):
        head = "paper 8\npi : 1 2\n"
        self.assertEqual(read_paper(head + "root 0 : 1 2\n"), ((("pi",), ("root", 0)), (8, ((1, 2), (1, 2)))))
        for line in ("root 1 : 1 2", "root 2 : 1 2", "root -1 : 1 2", "root 00 : 1 2", "root -0 : 1 2",
                     "root +0 : 1 2", "root x : 1 2", "root : 1 2", "root 0 0 : 1 2", "add 0 : 1 2", "add 0 1 : 1 2",
                     "add 1 0 : 1 2", "add 0 0 0 : 1 2", "other 0 : 1 2", "divide 0 2 : 1 2"):
            self.refused(head + line + "\n")

    def test_numbers(self):
        for number in ("00", "01", "-0", "-00", "-01", "+1", "+0", "--1", "-", "", "1.", "1e3", "\u0661", "\u00b2",
                       "1 ", "a", "0b1", "1-", "- 1"):
            self.refused(f"paper 8\nnumber {number} 3 : 85 86\n")
            self.refused(f"paper 8\nnumber 1 {number} : 85 86\n")
            self.refused(f"paper 8\nnumber 1 3 : {number} 86\n")
            self.refused(f"paper 8\nnumber 1 3 : -85 {number}\n")
        self.assertEqual(read_paper("paper 8\nnumber 0 3 : 0 0\n"), ((("number", 0, 3),), (8, ((0, 0),))))

    def test_wrong_way_round(self):
        self.refused("paper 8\npi : 805 804\n")
        self.refused("paper 8\npi : -1 -2\n")
        self.assertEqual(read_paper("paper 8\npi : -2 -2\n"), ((("pi",),), (8, ((-2, -2),))))

    def test_lines(self):
        lines = TEXT.split("\n")[:-1]
        self.refused(TEXT[:-1])
        self.refused(TEXT + "\n")
        self.refused(TEXT + " ")
        self.refused(TEXT.replace("\n", "\r\n"))
        self.refused(TEXT.replace("\n", "\n\n", 1))
        self.refused(TEXT.replace("\n", "\u2028"))
        for place in (0, 2):
            left = lines[:place] + lines[place + 1:]
            self.refused("\n".join(left) + "\n")
        self.refused("")
        self.refused("\n")
        self.refused("paper 8\n")
        self.refused("paper 8")
        self.refused("paper 8\n\n")
        self.refused("paper 8\npi : 804 805")

    def test_each_change_is_refused_or_read_back(self):
        """A text that is read is the very text that is written again."""
        for place in range(len(TEXT)):
            for new in ("", " ", "0", "7", "-", ":", "\n", "x"):
                for text in (TEXT[:place] + new + TEXT[place:], TEXT[:place] + new + TEXT[place + 1:]):
                    try:
                        found = read_paper(text)
                    except InvalidText:
                        continue
                    self.assertEqual(write_paper(*found), text)
