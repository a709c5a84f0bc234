"""Collecting: points 03.1 and 03.2."""

import random
import unittest

from saggar.collecting import collect, reached, words_of
from saggar.store import Store


def store_of(rows):
    """Returns a store with objects of (kind, slots)."""
    store = Store(1000000, 100000)
    for kind, slots in rows:
        number = store.allocate(kind, len(slots))
        for at, word in enumerate(slots):
            store.put(number, at, word)
    return store


def chain(count):
    """Returns a store in which each object refers to the next one."""
    store = Store(4 * count, count)
    for number in range(count):
        store.allocate(1, 1)
        store.put(number, 0, 2 * number + 2)
    store.put(count - 1, 0, 1)
    return store


class Reaching(unittest.TestCase):
    def numbers(self, store, roots):
        found = reached(store, roots)
        self.assertIs(type(found), dict)
        self.assertTrue(all(value is True for value in found.values()))
        return sorted(found)

    def test_roots_of_each_kind(self):
        store = store_of([(1, []), (1, []), (1, [])])
        self.assertEqual(self.numbers(store, []), [])
        self.assertEqual(self.numbers(store, [2]), [1])
        self.assertEqual(self.numbers(store, [0, 4]), [0, 2])
        # Words of small integers and symbols with the numbers of objects.
        self.assertEqual(self.numbers(store, [1, 5, 9, 3, 7, 11]), [])
        # References to numbers that no object has.
        self.assertEqual(self.numbers(store, [6, 100, 199998]), [])
        self.assertEqual(self.numbers(store, [2, 2, 2]), [1])

    def test_references_in_kinds_and_in_slots(self):
        store = store_of([(2, []), (4, [1, 6]), (1, []), (1, [3]), (1, [])])
        self.assertEqual(self.numbers(store, [0]), [0, 1, 2, 3])
        self.assertEqual(self.numbers(store, [2]), [1, 2, 3])
        self.assertEqual(self.numbers(store, [6]), [3])

    def test_other_words_in_slots_and_kinds_reach_nothing(self):
        store = store_of([(7, [1, 3, 5, 7, 9, 11, 198]), (3, []), (1, [])])
        self.assertEqual(self.numbers(store, [0]), [0])

    def test_circles(self):
        store = store_of([(1, [2]), (1, [4]), (1, [0]), (6, [6]), (1, [8])])
        self.assertEqual(self.numbers(store, [4]), [0, 1, 2])
        self.assertEqual(self.numbers(store, [6]), [3])
        self.assertEqual(self.numbers(store, []), [])

    def test_a_long_chain(self):
        store = chain(30000)
        self.assertEqual(len(reached(store, [0])), 30000)
        self.assertEqual(len(reached(store, [2 * 29000])), 1000)

    def test_a_long_chain_of_kinds(self):
        store = Store(100000, 30000)
        for number in range(30000):
            store.allocate(2 * number + 2, 0)
        self.assertEqual(len(reached(store, [0])), 30000)

    def test_dropped_objects_are_not_reached(self):
        store = store_of([(1, [2]), (1, [4]), (1, [])])
        store.drop(1)
        self.assertEqual(self.numbers(store, [0, 2]), [0])

    def test_nothing_is_changed(self):
        store = store_of([(1, [2]), (1, []), (1, [])])
        before = list(store.words)
        roots = [0, 5, 800]
        reached(store, roots)
        self.assertEqual([store.words, store.numbers(), roots], [before, [0, 1, 2], [0, 5, 800]])


class Counting(unittest.TestCase):
    def test_lists_and_dicts(self):
        store = store_of([(1, []), (1, [1, 1]), (1, [1] * 7)])
        self.assertEqual(words_of(store, []), 0)
        self.assertEqual(words_of(store, [0]), 3)
        self.assertEqual(words_of(store, [2, 0]), 13)
        self.assertEqual(words_of(store, {1: True, 2: True}), 15)
        self.assertEqual(words_of(store, {}), 0)
        self.assertEqual(words_of(store, store.numbers()), store.used())


class Collecting(unittest.TestCase):
    def test_what_is_kept_stays_as_it_is(self):
        store = store_of([(1, [3]), (8, [6, 4]), (1, []), (5, [2]), (9, [])])
        roots = [2]
        self.assertEqual(collect(store, roots), 1)
        self.assertEqual(store.words, [1, 2, 8, 6, 4, 2, 0, 1, 3, 1, 5, 2, 4, 0, 9])
        self.assertEqual([store.numbers(), roots], [[1, 2, 3, 4], [2]])

    def test_the_order_in_the_list_is_kept(self):
        store = store_of([(1, []), (1, []), (1, [])])
        store.drop(0)
        store.allocate(13, 1)
        self.assertEqual(collect(store, [0, 4]), 1)
        self.assertEqual(store.words, [2, 0, 1, 0, 1, 13, 0])

    def test_once_more_changes_nothing(self):
        store = store_of([(1, [2]), (1, [0]), (1, [6]), (1, [])])
        self.assertEqual(collect(store, [0]), 2)
        before = list(store.words)
        self.assertEqual(collect(store, [0]), 0)
        self.assertEqual(store.words, before)

    def test_circles_that_are_not_reached_are_dropped(self):
        store = store_of([(1, []), (1, [4]), (1, [2]), (6, [6])])
        self.assertEqual(collect(store, [0]), 3)
        self.assertEqual([store.words, store.free_number()], [[0, 0, 1], 1])

    def test_without_roots(self):
        store = store_of([(1, [0]), (1, [])])
        self.assertEqual(collect(store, [5, 7, 90]), 2)
        self.assertEqual([store.words, store.numbers()], [[], []])

    def test_it_closes_up_also_what_was_dropped_before(self):
        store = store_of([(1, []), (1, [])])
        store.drop(1)
        self.assertEqual(collect(store, [0]), 0)
        self.assertEqual(store.words, [0, 0, 1])

    def test_an_empty_store(self):
        self.assertEqual(collect(Store(0, 0), [0, 1, 2]), 0)

    def test_random_stores(self):
        for seed in range(80):
            chance = random.Random(seed)
            count = chance.randrange(1, 12)

            def word():
                return chance.choice([2 * chance.randrange(count + 2), 1, 3, 5])

            rows = [(word(), [word() for _ in range(chance.randrange(3))]) for _ in range(count)]
            roots = [word() for _ in range(chance.randrange(3))]
            kept = {w // 2 for w in roots if w % 2 == 0 and w // 2 < count}
            for _ in range(count):
                for number in list(kept):
                    around = [rows[number][0]] + rows[number][1]
                    kept |= {w // 2 for w in around if w % 2 == 0 and w // 2 < count}
            store = store_of(rows)
            self.assertEqual(sorted(reached(store, roots)), sorted(kept))
            self.assertEqual(collect(store, roots), count - len(kept))
            wanted = []
            for number in sorted(kept):
                wanted += [number, len(rows[number][1]), rows[number][0]] + rows[number][1]
            self.assertEqual(store.words, wanted)


if __name__ == "__main__":
    unittest.main()
