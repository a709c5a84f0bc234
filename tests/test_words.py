"""Words: points 01.1 and 01.2."""

import unittest

from saggar import words
from saggar.errors import BadWord, SaggarError

FAR = 10 ** 30
LEAST = -(1 << 28)
GREATEST = (1 << 28) - 1


class Words(unittest.TestCase):
    def refuses(self, function, number):
        with self.assertRaises(BadWord) as caught:
            function(number)
        self.assertEqual(caught.exception.word, number)
        self.assertIsInstance(caught.exception, SaggarError)
        self.assertIsInstance(caught.exception, ValueError)

    def test_constants(self):
        self.assertEqual(words.NIL, 0)
        self.assertEqual(words.LEAST, -268435456)
        self.assertEqual(words.GREATEST, 268435455)
        self.assertEqual(words.MOST, 100000)

    def test_fits(self):
        for number in (LEAST, LEAST + 1, -1, 0, 1, GREATEST - 1, GREATEST):
            self.assertIs(words.fits(number), True)
        for number in (LEAST - 1, GREATEST + 1, FAR, -FAR):
            self.assertIs(words.fits(number), False)

    def test_small_integers(self):
        for number in (LEAST, LEAST + 1, -3, -1, 0, 1, 7, GREATEST - 1, GREATEST):
            word = words.of_int(number)
            self.assertEqual(word, 4 * number + 1)
            self.assertEqual(words.int_of(word), number)
            self.assertIs(words.is_word(word), True)

    def test_symbols(self):
        for number in (0, 1, 5, 99998, 99999):
            word = words.of_symbol(number)
            self.assertEqual(word, 4 * number + 3)
            self.assertEqual(words.symbol_of(word), number)
            self.assertIs(words.is_word(word), True)

    def test_references(self):
        for number in (0, 1, 5, 99998, 99999):
            word = words.of_ref(number)
            self.assertEqual(word, 2 * number)
            self.assertEqual(words.ref_of(word), number)
            self.assertIs(words.is_word(word), True)

    def test_numbers_out_of_range(self):
        for number in (LEAST - 1, GREATEST + 1, FAR, -FAR):
            self.refuses(words.of_int, number)
        for number in (-1, 100000, FAR, -FAR):
            self.refuses(words.of_symbol, number)
            self.refuses(words.of_ref, number)

    def test_the_kind_is_told_by_the_remainder_alone(self):
        for base in (0, -4, 4, 8, 400000, 4 * FAR, -4 * FAR, 4 << 40):
            kinds = [[words.is_int(base + k), words.is_symbol(base + k), words.is_ref(base + k)] for k in range(4)]
            self.assertEqual(kinds[0], [False, False, True])
            self.assertEqual(kinds[1], [True, False, False])
            self.assertEqual(kinds[2], [False, False, True])
            self.assertEqual(kinds[3], [False, True, False])

    def test_the_tests_return_true_and_false(self):
        for function in (words.is_int, words.is_symbol, words.is_ref, words.is_word, words.fits):
            for number in range(-6, 7):
                self.assertIn(function(number), (True, False))
                self.assertIs(type(function(number)), bool)

    def test_numbers_are_taken_out_by_the_remainder_alone(self):
        for base in (0, -4, 4, 8, 400000, 4 * FAR, -4 * FAR):
            self.assertEqual(words.int_of(base + 1), base // 4)
            self.assertEqual(words.symbol_of(base + 3), base // 4)
            self.assertEqual(words.ref_of(base), base // 2)
            self.assertEqual(words.ref_of(base + 2), base // 2 + 1)

    def test_other_kinds_are_refused(self):
        for base in (0, -4, 4, 400000, 4 * FAR, -4 * FAR):
            for k in (0, 2, 3):
                self.refuses(words.int_of, base + k)
            for k in (0, 1, 2):
                self.refuses(words.symbol_of, base + k)
            for k in (1, 3):
                self.refuses(words.ref_of, base + k)

    def test_is_word_at_the_edges(self):
        for word in (0, 2, 199998, 3, 399999, 4 * LEAST + 1, 4 * GREATEST + 1, 1, -3):
            self.assertIs(words.is_word(word), True)
        beyond = (-2, -4, 200000, 200002, -1, 400003, 4 * LEAST - 3, 4 * GREATEST + 5)
        for word in beyond + (FAR, FAR + 1, FAR + 3, -FAR, -FAR + 1, -FAR + 3):
            self.assertIs(words.is_word(word), False)

    def test_words_of_different_things_differ(self):
        some = [words.of_int(n) for n in range(-50, 50)]
        some = some + [words.of_symbol(n) for n in range(50)] + [words.of_ref(n) for n in range(50)]
        self.assertEqual(len(set(some)), len(some))


if __name__ == "__main__":
    unittest.main()
