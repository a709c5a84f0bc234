"""Why objects are kept: points 23.1 to 23.6."""

import random
import unittest

from saggar.collecting import collect
from saggar.inspecting import garbage, owners, paths, retained, retained_words, word_at
from saggar.spaces import Space
from tests.graphs import chained, found_without, grown, rows, state_of


def best_paths(space):
    """Returns the best paths, by trying all paths up to a length, the shorter ones first."""
    table, first = rows(space)
    found, edge = {}, [((k,), word) for k, word in enumerate(first)]
    while edge:
        new = {}
        for path, word in sorted(edge):
            if word % 2 == 0 and word // 2 in table and word // 2 not in found and word // 2 not in new:
                new[word // 2] = path
        edge = [(path + (k,), word) for number, path in new.items() for k, word in enumerate(table[number])]
        found.update(new)
    return found


def places_of(space):
    found = [("root", k) for k in range(16)]
    for number in space.store.numbers():
        found.append(("kind", number))
        found += [("slot", number, at) for at in range(space.store.size(number))]
    return found


def emptied(space, place):
    """Puts NIL into a place."""
    if place[0] == "root":
        space.set_root(place[1], 0)
    elif place[0] == "kind":
        space.store.set_kind(place[1], 0)
    else:
        space.store.put(place[1], place[2], 0)


def owners_told(space):
    """Returns the owners by the words of point 23.5: what is not reached without an object is below it."""
    table, first = rows(space)
    all_found = found_without(space, None, table, first)
    below = {number: all_found - found_without(space, number, table, first) - {number} for number in all_found}
    found = {}
    for number in all_found:
        above = [other for other in all_found if number in below[other]]
        nearest = [other for other in above if all(other == far or other in below[far] for far in above)]
        assert len(nearest) == (1 if above else 0)
        found[number] = nearest[0] if nearest else None
    return found, below


def small():
    """Returns the space of the example."""
    space = Space(100, 50)
    for kind, size in ((0, 0), (0, 2), (0, 1), (0, 0), (1, 0)):
        space.new(kind, size)
    space.set_root(7, 2)
    for number, at, word in ((1, 0, 4), (1, 1, 6), (2, 0, 6)):
        space.store.put(number, at, word)
    return space


class WordAt(unittest.TestCase):
    def test_words(self):
        space = small()
        space.hold(9)
        for path, word in (((0,), 0), ((8,), 2), ((1,), 0), ((17,), 9), ((8, 0), 0), ((8, 1), 4), ((8, 2), 6), ((8, 1, 1), 6),
                           ((8, 1, 1, 0), 0), ((8, 0, 0, 0, 0), 0)):
            self.assertEqual(word_at(space, path), word, path)

    def test_nowhere(self):
        space = small()
        space.hold(9)
        space.hold(2 * 49)
        for path in ((), (-1,), (19,), (10 ** 20,), (-10 ** 20,), (8, -1), (8, 3), (8, 2, 1), (17, 0), (18, 0), (8, 1, 1, 0, 5),
                     (8, 10 ** 20), (8, -10 ** 20, 0), (8, 3, 0), (-1, 0)):
            self.assertIsNone(word_at(space, path), path)
        # The words themselves are there.
        self.assertEqual([word_at(space, (17,)), word_at(space, (18,))], [9, 98])

    def test_words_of_no_object(self):
        space = Space(100, 50)
        space.set_root(3, 6)
        self.assertEqual([word_at(space, (0,)), word_at(space, (4,)), word_at(space, (4, 0)), word_at(space, (0, 0))], [0, 6, None, None])


class Paths(unittest.TestCase):
    def test_among_several(self):
        space = small()
        # The object 3 is reached over two paths that are equally short.
        self.assertEqual(paths(space), {0: (0,), 1: (8,), 2: (8, 1), 3: (8, 2)})
        space.set_root(9, 6)
        self.assertEqual(paths(space)[3], (10,))
        space.set_root(2, 6)
        self.assertEqual(paths(space)[3], (3,))
        space.hold(4)
        self.assertEqual(paths(space)[2], (17,))

    def test_kinds(self):
        space = small()
        space.store.set_kind(1, 6)
        self.assertEqual(paths(space)[3], (8, 0))

    def test_the_lesser_of_two(self):
        # Both paths have three integers; the first step decides, not the last one.
        space = Space(100, 50)
        for size in (0, 2, 2, 0):
            space.new(1, size)
        space.set_root(0, 2)
        space.set_root(1, 4)
        space.store.put(1, 1, 6)
        space.store.put(2, 0, 6)
        self.assertEqual(paths(space)[3], (1, 2))

    def test_an_empty_space(self):
        self.assertEqual([paths(Space(9, 9)), owners(Space(9, 9)), retained_words(Space(9, 9)), garbage(Space(9, 9))], [{}, {}, {}, []])

    def test_numbers_that_no_object_has(self):
        space = small()
        space.set_root(0, 2 * 40)
        space.store.put(1, 0, 2 * 41)
        space.store.drop(0)
        self.assertEqual(paths(space), {1: (8,), 3: (8, 2)})
        self.assertEqual(garbage(space), [2, 4])

    def test_at_random(self):
        chance, reached = random.Random(1), 0
        for _ in range(150):
            space = grown(chance, chance.randrange(1, 40))
            before = state_of(space)
            found = paths(space)
            self.assertEqual(found, best_paths(space))
            self.assertEqual(set(found), found_without(space))
            for number, path in found.items():
                self.assertEqual(word_at(space, path), 2 * number)
            self.assertEqual(state_of(space), before)
            reached += len(found)
        self.assertGreater(reached, 1000)

    def test_a_chain(self):
        space = chained(1500)
        found = paths(space)
        self.assertEqual([found[2], found[3], len(found[1501])], [(1,), (1, 1), 1500])


class Garbage(unittest.TestCase):
    def test_at_random(self):
        chance, seen = random.Random(2), 0
        for _ in range(100):
            space = grown(chance, chance.randrange(1, 40))
            before = state_of(space)
            found = garbage(space)
            self.assertEqual(found, sorted(set(space.store.numbers()) - found_without(space)))
            self.assertEqual(state_of(space), before)
            seen += len(found)
        self.assertGreater(seen, 100)


class Retained(unittest.TestCase):
    def test_each_kind_of_place(self):
        space = small()
        for place, found in ((("root", 7), [1, 2, 3]), (("root", 0), []), (("slot", 1, 0), [2]), (("slot", 1, 1), []),
                             (("slot", 2, 0), []), (("kind", 1), []), (("kind", 4), [])):
            self.assertEqual(retained(space, place), found, place)
        space.store.set_kind(3, 8)
        self.assertEqual([retained(space, ("kind", 3)), retained(space, ("root", 7))], [[4], [1, 2, 3, 4]])

    def test_held_words_keep(self):
        space = small()
        space.hold(4)
        self.assertEqual([retained(space, ("root", 7)), retained(space, ("slot", 1, 0))], [[1], []])

    def test_against_collections(self):
        chance, seen = random.Random(3), 0
        for _ in range(200):
            space = grown(chance, chance.randrange(1, 25))
            waste = set(garbage(space))
            for place in chance.sample(places_of(space), min(12, len(places_of(space)))):
                before = state_of(space)
                found = retained(space, place)
                self.assertEqual(state_of(space), before)
                snapshot, roots = space.store.snapshot(), space.all_roots()
                emptied(space, place)
                there = set(space.store.numbers())
                collect(space.store, space.all_roots())
                self.assertEqual(found, sorted(there - set(space.store.numbers()) - waste), place)
                space.store.restore(snapshot)
                for k in range(16):
                    space.set_root(k, roots[k + 1])
                seen += len(found)
        self.assertGreater(seen, 200)

    def test_a_chain(self):
        space = chained(1500)
        self.assertEqual(retained(space, ("slot", 700, 0)), list(range(701, 1502)))
        self.assertEqual(retained(space, ("root", 0)), list(range(2, 1502)))


class Owners(unittest.TestCase):
    def test_small(self):
        space = small()
        self.assertEqual(owners(space), {0: None, 1: None, 2: 1, 3: 1})
        self.assertEqual(retained_words(space), {0: 3, 1: 12, 2: 4, 3: 3})
        space.set_root(1, 6)
        self.assertEqual([owners(space)[3], retained_words(space)], [None, {0: 3, 1: 9, 2: 4, 3: 3}])

    def test_the_object_nil_has_none(self):
        space = Space(100, 50)
        space.new(0, 1)
        space.new(0, 0)
        space.store.put(0, 0, 2)
        self.assertEqual([owners(space), retained_words(space)], [{0: None, 1: 0}, {0: 7, 1: 3}])

    def test_circles(self):
        # 1 and 2 refer to each other; either of them can be reached first.
        space = Space(100, 50)
        for _ in range(4):
            space.new(1, 2)
        for number, at, word in ((3, 0, 2), (3, 1, 4), (1, 0, 4), (2, 0, 2), (1, 1, 6)):
            space.store.put(number, at, word)
        space.set_root(5, 6)
        self.assertEqual(owners(space), {0: None, 3: None, 1: 3, 2: 3})
        self.assertEqual(retained_words(space), {0: 5, 3: 15, 1: 5, 2: 5})

    def test_at_random(self):
        chance, depth = random.Random(4), 0
        for _ in range(200):
            space = grown(chance, chance.randrange(1, 30))
            before = state_of(space)
            told, below = owners_told(space)
            self.assertEqual(owners(space), told)
            words = {number: sum(3 + space.store.size(other) for other in below[number] | {number}) for number in told}
            self.assertEqual(retained_words(space), words)
            self.assertEqual(state_of(space), before)
            depth += sum(1 for owner in told.values() if owner is not None)
        self.assertGreater(depth, 500)

    def test_sparse_ones_at_random(self):
        # Few references: long lines of owners, with short cuts and ways back.
        chance = random.Random(5)
        for _ in range(60):
            count = 40
            space = Space(1000, 100)
            for _ in range(count):
                space.new(1, 2)
            space.set_root(3, 2)
            for number in range(1, count):
                space.store.put(number, 0, 2 * min(count - 1, number + 1))
                if chance.random() < 0.4:
                    space.store.put(number, 1, 2 * chance.randrange(1, count))
            told, _ = owners_told(space)
            self.assertEqual(owners(space), told)

    def test_a_chain(self):
        count = 30000
        space = chained(count)
        found, words = owners(space), retained_words(space)
        self.assertEqual([found[0], found[1], found[2]], [None, None, None])
        self.assertTrue(all(found[number] == number - 1 for number in range(3, count + 2)))
        self.assertEqual([words[2], words[count + 1], words[1]], [4 * count, 4, 3])

    def test_a_chain_that_shares_its_kind(self):
        space = chained(3000, loose=True)
        found, words = owners(space), retained_words(space)
        self.assertEqual([found[1], found[2], found[3], words[2]], [2, None, 2, 4 * 3000 + 3])

    def test_a_chain_with_ways_back(self):
        count = 3000
        space = Space(10 * count, count)
        for _ in range(count):
            space.new(1, 2)
        for number in range(1, count - 1):
            space.store.put(number, 0, 2 * number + 2)
            space.store.put(number + 1, 1, 2 * number)
        space.set_root(0, 2)
        found = owners(space)
        self.assertTrue(all(found[number] == number - 1 for number in range(2, count)))
        # A second way in at the end: nothing owns anything any more.
        space.set_root(1, 2 * count - 2)
        self.assertEqual(set(owners(space).values()), {None})


if __name__ == "__main__":
    unittest.main()
