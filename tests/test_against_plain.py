"""Many small texts, held against the plain telling of the document in plain.py."""

import random
import unittest

import plain
from making import made_text
from termpairs.rules import told


class AgainstPlain(unittest.TestCase):
    def test_texts_made_up(self):
        for seed in range(2000):
            chance = random.Random(seed)
            text = made_text(chance)
            steps = chance.choice((0, 1, 2, 3, 5, 10, 30, 60))
            most = chance.choice((4194304,) * 8 + (0, 50, 300))
            with self.subTest(seed=seed, text=text, steps=steps, most=most):
                self.assertEqual(told(steps, most, [ord(sign) for sign in text]), plain.told(steps, most, text))


if __name__ == "__main__":
    unittest.main()
