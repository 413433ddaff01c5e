import itertools
import random
import unittest

from chancechoices.chances import check
from grammar import expected

SAMPLE = ("state", "a", "{", "x", "-", "7", ":", "a", "/", "3", ",", "b", ";", "y", "0", ":", "b", ";", "}",
          "state", "b", "{", "x", "1000", ":", "a", ";", "}")
SPARE = ("state", "a", "b", "c", "x", "{", "}", ":", ";", ",", "/", "-", "0", "1000", "1001", "00000000", "#", "#\n", "_")


class ByGrammar(unittest.TestCase):
    def compare(self, words):
        self.assertEqual(check(list(words.encode("latin-1"))), expected(words), words)

    def test_the_sample_holds(self):
        self.assertEqual(expected(" ".join(SAMPLE)), [2])
        self.compare(" ".join(SAMPLE))

    def test_each_part_left_out(self):
        for k in range(len(SAMPLE)):
            self.compare(" ".join(SAMPLE[:k] + SAMPLE[k + 1:]))

    def test_each_two_parts_exchanged(self):
        for j, k in itertools.combinations(range(len(SAMPLE)), 2):
            changed = list(SAMPLE)
            changed[j], changed[k] = changed[k], changed[j]
            self.compare(" ".join(changed))

    def test_a_part_put_in_or_put_for_another(self):
        for k in range(len(SAMPLE) + 1):
            for part in SPARE:
                self.compare(" ".join(SAMPLE[:k] + (part,) + SAMPLE[k:]))
                self.compare(" ".join(SAMPLE[:k] + (part,) + SAMPLE[k + 1:]))

    def test_a_blank_left_out(self):
        for k in range(1, len(SAMPLE)):
            self.compare(" ".join(SAMPLE[:k]) + " ".join(SAMPLE[k:]))

    def test_each_byte_put_for_each(self):
        whole = "state a{x-7:a/3,b;}state b{}#"
        for k in range(len(whole)):
            self.compare(whole[:k] + whole[k + 1:])
            for byte in range(256):
                self.compare(whole[:k] + chr(byte) + whole[k + 1:])

    def test_all_short_rows_of_parts_in_a_state(self):
        for length in range(4):
            for row in itertools.product(("x", "-", "1", ":", "a", "/", ",", ";", "}"), repeat=length):
                self.compare("state a { x 1: a " + " ".join(row) + "; }")
                self.compare("state a { " + " ".join(row) + " 1: a; }")

    def test_texts_with_some_changes(self):
        chance = random.Random(20)
        for turn in range(4000):
            changed = list(SAMPLE)
            for change in range(chance.randrange(1, 4)):
                k = chance.randrange(len(changed))
                changed[k:k + chance.randrange(2)] = [chance.choice(SPARE)]
            self.compare(chance.choice(("", " ", "\n")).join(changed))

    def test_made_texts_near_the_edges(self):
        chance = random.Random(21)
        names = ["n" + str(k) for k in range(16)] + ["n" * 16]
        answers = {}
        for turn in range(400):
            told = chance.sample(names, chance.randrange(1, 17))
            whole = "".join(self.made_state(chance, name, told) for name in told)
            self.compare(whole)
            answers[expected(whole)[0] > 0] = True
        self.assertEqual(len(answers), 2)

    def made_state(self, chance, name, told):
        inner = ""
        for choice in range(chance.choice((0, 1, 2, 8, 8 + (chance.randrange(40) == 0)))):
            ways = chance.sample(told, chance.randrange(1, len(told) + 1))
            weights = [chance.choice(("", "/1", "/1000", "/1001" if chance.randrange(200) == 0 else "/7")) for way in ways]
            gain = chance.choice(("0", "-1000", "1000", "1001" if chance.randrange(80) == 0 else "5"))
            inner += "c" + str(choice) + " " + gain + ":" + ",".join(map("".join, zip(ways, weights))) + ";\n"
        return "state " + name + "{" + inner + "}"


if __name__ == "__main__":
    unittest.main()
