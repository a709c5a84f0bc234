"""Spaces: points 05.1 to 05.5."""

import random
import unittest

from saggar.errors import NoNumber, NoRoom, SaggarError, Wrong
from saggar.spaces import ROOTS, Space


def picture(space):
    """Returns all that can be seen of a space."""
    store = space.store
    objects = [(n, store.kind(n), store.slots(n)) for n in store.numbers()]
    counts = [space.allocations, space.collections, space.always, list(space.pressure)]
    return [list(store.words), objects, space.all_roots(), space.held(), counts]


def rooted(room, entries, sizes):
    """Returns a space with one object of each size in the roots from 0 on."""
    space = Space(room, entries)
    for k, size in enumerate(sizes):
        space.set_root(k, 2 * space.new(1, size))
    return space


class Roots(unittest.TestCase):
    def test_an_empty_space(self):
        self.assertEqual(ROOTS, 16)
        space = Space(50, 7)
        self.assertEqual([space.store.room, space.store.entries, space.store.words], [50, 7, []])
        self.assertEqual([space.root(k) for k in range(16)], [0] * 16)
        self.assertEqual(space.all_roots(), [0] * 17)
        self.assertEqual([space.held(), space.live_words()], [0, 0])
        self.assertEqual([space.always, space.pressure, space.allocations, space.collections], [False, [], 0, 0])
        self.assertIs(space.always, False)

    def test_roots_and_held_words(self):
        space = Space(50, 7)
        space.set_root(0, 5)
        space.set_root(15, 7)
        self.assertEqual([space.hold(9), space.hold(4), space.hold(9)], [9, 4, 9])
        self.assertEqual([space.root(0), space.root(15), space.root(3), space.held()], [5, 7, 0, 3])
        self.assertEqual(space.all_roots(), [0, 5] + [0] * 14 + [7, 9, 4, 9])
        space.drop(0)
        self.assertEqual(space.held(), 3)
        space.drop(2)
        self.assertEqual(space.all_roots()[17:], [9])
        space.hold(11)
        space.drop(2)
        self.assertEqual([space.held(), len(space.all_roots())], [0, 17])
        space.set_root(0, 0)
        self.assertEqual(space.root(0), 0)

    def test_lists_that_are_returned_are_new(self):
        space = Space(50, 7)
        space.hold(5)
        found = space.all_roots()
        found[1] = 77
        found.append(7)
        self.assertEqual([space.root(0), space.held(), space.all_roots()[1:2]], [0, 1, [0]])

    def test_roots_and_held_words_reach(self):
        space = Space(100, 20)
        for _ in range(6):
            space.new(1, 1)
        for number in range(6):
            space.store.put(number, 0, 1)
        space.store.put(2, 0, 6)
        space.set_root(9, 4)
        space.hold(8)
        space.hold(8)
        self.assertEqual(space.live_words(), 16)
        self.assertEqual(space.collect(), 2)
        self.assertEqual(space.store.numbers(), [0, 2, 3, 4])
        space.drop(1)
        self.assertEqual(space.collect(), 0)
        space.drop(1)
        self.assertEqual(space.collect(), 1)
        space.set_root(9, 0)
        self.assertEqual([space.collect(), space.store.numbers(), space.collections], [2, [0], 4])

    def test_live_words_changes_nothing(self):
        space = rooted(100, 20, [1, 2, 0])
        space.set_root(1, 0)
        before = picture(space)
        self.assertEqual(space.live_words(), 7)
        self.assertEqual(picture(space), before)
        space.begin()
        self.assertEqual(space.live_words(), 7)


class Making(unittest.TestCase):
    def test_objects_are_made_by_the_store(self):
        space = Space(100, 20)
        self.assertEqual([space.new(5, 2), space.new(0, 0)], [0, 1])
        self.assertEqual(space.store.words, [0, 2, 5, 0, 0, 1, 0, 0])
        self.assertEqual([space.allocations, space.collections], [2, 0])

    def test_it_collects_only_when_there_is_no_room(self):
        space = rooted(9, 9, [0])
        self.assertEqual([space.new(1, 0), space.new(1, 0), space.collections], [1, 2, 0])
        self.assertEqual([space.new(1, 0), space.collections], [1, 1])
        self.assertEqual(space.store.numbers(), [0, 1])

    def test_it_collects_when_there_is_no_number(self):
        space = rooted(100, 3, [0])
        self.assertEqual([space.new(1, 0), space.new(1, 0), space.collections], [1, 2, 0])
        self.assertEqual([space.new(9, 2), space.collections], [1, 1])
        self.assertEqual(space.store.words, [0, 0, 1, 1, 2, 9, 0, 0])

    def test_no_room_exactly_when_it_is_due(self):
        space = rooted(20, 9, [0, 4, 2])
        space.set_root(1, 0)
        with self.assertRaises(NoRoom) as caught:
            space.new(1, 10)
        self.assertEqual(caught.exception.need, 13)
        self.assertEqual([space.new(1, 9), space.store.used()], [1, 20])

    def test_no_number_exactly_when_it_is_due(self):
        space = rooted(100, 3, [0, 0, 0])
        with self.assertRaises(NoNumber) as caught:
            space.new(1, 0)
        self.assertEqual([caught.exception.limit, space.collections], [3, 1])
        space.set_root(1, 0)
        self.assertEqual([space.new(1, 0), space.collections], [1, 2])

    def test_no_room_comes_before_no_number(self):
        space = rooted(8, 2, [0, 0])
        with self.assertRaises(NoRoom):
            space.new(1, 0)
        space = rooted(9, 2, [0, 0])
        with self.assertRaises(NoNumber):
            space.new(1, 0)

    def test_calls_that_raise_are_counted(self):
        space = rooted(6, 9, [0, 0])
        for call in range(3, 6):
            with self.assertRaises(NoRoom):
                space.new(1, 0)
            self.assertEqual([space.allocations, space.collections], [call, call - 2])

    def test_what_the_kind_reaches_is_kept(self):
        space = rooted(15, 9, [0])
        kind = space.new(1, 1)
        below = space.new(1, 0)
        space.store.put(kind, 0, 2 * below)
        space.new(1, 0)
        # Object 3 alone can go.
        with self.assertRaises(NoRoom):
            space.new(2 * kind, 3)
        self.assertEqual(space.store.numbers(), [0, 1, 2])
        self.assertEqual([space.new(2 * kind, 1), space.store.numbers()], [3, [0, 1, 2, 3]])
        self.assertEqual([space.store.kind(3), space.store.get(kind, 0)], [2, 4])

    def test_what_the_kind_reaches_is_kept_by_a_pressed_collection(self):
        space = rooted(100, 9, [0])
        kind = space.new(1, 0)
        space.press([], always=True)
        self.assertEqual(space.new(2 * kind, 0), 2)
        self.assertEqual(space.new(1, 0), 1)

    def test_what_the_kind_reaches_counts_for_the_numbers(self):
        space = rooted(100, 2, [0])
        kind = space.new(1, 0)
        with self.assertRaises(NoNumber):
            space.new(2 * kind, 0)
        self.assertEqual(space.new(1, 0), 1)


class Pressing(unittest.TestCase):
    def collected(self, space, calls):
        """Returns the calls of new that collected."""
        found = []
        for _ in range(calls):
            before = space.collections
            space.new(1, 0)
            if space.collections > before:
                found.append(space.allocations)
        return found

    def test_moments(self):
        space = Space(100, 50)
        space.press([2, 5, 5, 0, -1, 900])
        self.assertEqual(self.collected(space, 7), [2, 5])
        self.assertEqual(space.collections, 2)
        self.assertEqual([space.pressure, space.always], [[2, 5, 5, 0, -1, 900], False])

    def test_later_moments_stand_in_the_place_of_earlier_ones(self):
        space = Space(100, 50)
        space.press([2, 4])
        self.assertEqual(self.collected(space, 2), [2])
        space.press([5])
        self.assertEqual(self.collected(space, 4), [5])
        space.press([])
        self.assertEqual([self.collected(space, 3), space.pressure], [[], []])

    def test_the_space_keeps_a_copy(self):
        space = Space(100, 50)
        moments = [2]
        space.press(moments)
        moments.append(1)
        self.assertEqual([self.collected(space, 2), space.pressure, moments], [[2], [2], [2, 1]])

    def test_always(self):
        space = Space(100, 50)
        space.press([3], always=True)
        self.assertIs(space.always, True)
        self.assertEqual(self.collected(space, 4), [1, 2, 3, 4])
        space.press([6])
        self.assertIs(space.always, False)
        self.assertEqual(self.collected(space, 3), [6])

    def test_a_pressed_call_that_finds_no_room_collects_twice(self):
        space = rooted(6, 9, [0, 0])
        space.press([3])
        with self.assertRaises(NoRoom):
            space.new(1, 0)
        self.assertEqual([space.allocations, space.collections], [3, 2])

    def test_calls_that_raise_move_the_moments(self):
        space = rooted(6, 9, [0, 0])
        space.press([4])
        with self.assertRaises(NoRoom):
            space.new(1, 0)
        space.set_root(1, 0)
        self.assertEqual(space.new(1, 0), 1)
        self.assertEqual([space.allocations, space.collections], [4, 2])


class Work(unittest.TestCase):
    def refuses(self, call, why):
        with self.assertRaises(Wrong) as caught:
            call()
        self.assertEqual(caught.exception.why, why)
        self.assertIsInstance(caught.exception, SaggarError)

    def test_begin_collects(self):
        space = rooted(100, 9, [0])
        space.new(1, 3)
        self.assertIsNone(space.begin())
        self.assertEqual([space.store.numbers(), space.collections], [[0], 1])

    def test_an_open_piece_of_work_does_not_collect(self):
        space = rooted(12, 9, [0])
        space.begin()
        space.press([], always=True)
        for _ in range(3):
            space.new(1, 0)
        with self.assertRaises(NoRoom):
            space.new(1, 0)
        self.assertEqual([space.collections, space.allocations, space.store.numbers()], [1, 5, [0, 1, 2, 3]])
        space.commit()
        self.assertEqual([space.new(1, 0), space.collections], [1, 2])

    def test_an_open_piece_of_work_does_not_collect_for_numbers(self):
        space = rooted(100, 2, [0])
        space.begin()
        space.press([3])
        space.new(1, 0)
        with self.assertRaises(NoNumber):
            space.new(1, 0)
        self.assertEqual([space.collections, space.allocations], [1, 3])

    def test_commit_keeps_what_has_been_done(self):
        space = rooted(100, 9, [1])
        space.begin()
        space.set_root(2, 2 * space.new(5, 1))
        space.hold(13)
        space.store.put(0, 0, 17)
        before = picture(space)
        self.assertIsNone(space.commit())
        self.assertEqual(picture(space), before)
        self.assertEqual([space.collect(), space.store.numbers()], [0, [0, 1]])

    def test_abort_gives_back(self):
        space = rooted(100, 9, [1, 0])
        space.hold(7)
        space.hold(2)
        space.begin()
        before = picture(space)
        space.store.put(0, 0, 17)
        space.store.set_kind(1, 19)
        space.store.exchange(0, 1)
        space.set_root(0, 0)
        space.set_root(8, 2 * space.new(5, 1))
        space.drop(2)
        space.hold(99)
        space.press([44], always=True)
        self.assertIsNone(space.abort())
        after = picture(space)
        self.assertEqual(after[:4], before[:4])
        self.assertEqual(after[4], [3, 1, True, [44]])
        self.assertEqual(space.store.free_number(), 2)

    def test_abort_gives_back_objects_that_were_dropped(self):
        space = rooted(100, 9, [1, 0])
        space.begin()
        before = picture(space)
        space.store.drop(1)
        space.store.drop(0)
        space.store.close_up()
        space.abort()
        self.assertEqual(picture(space), before)

    def test_several_pieces_one_behind_the_other(self):
        space = rooted(100, 9, [1])
        for k in range(3):
            space.begin()
            space.set_root(5, 4 * k + 1)
            space.abort()
            self.assertEqual(space.root(5), 0)
        space.begin()
        space.set_root(5, 21)
        space.commit()
        space.begin()
        space.set_root(5, 25)
        space.abort()
        self.assertEqual([space.root(5), space.collections, space.new(1, 0)], [21, 5, 1])

    def test_wrong_calls_change_nothing(self):
        space = rooted(100, 9, [1])
        space.new(1, 0)
        before = picture(space)
        self.refuses(space.commit, "closed")
        self.refuses(space.abort, "closed")
        self.assertEqual(picture(space), before)
        space.begin()
        space.new(1, 0)
        before = picture(space)
        self.refuses(space.begin, "open")
        self.refuses(space.collect, "open")
        self.assertEqual(picture(space), before)
        space.abort()
        self.refuses(space.abort, "closed")
        self.refuses(space.commit, "closed")
        space.begin()
        space.commit()
        self.refuses(space.commit, "closed")


def shape(space):
    """Returns what the space reaches, with numbers by the order of finding."""
    numbers = {}
    found = []
    rows = [space.all_roots()]
    for row in rows:
        for word in row:
            number = word // 2
            if word % 2 == 0 and space.store.exists(number):
                if number not in numbers:
                    numbers[number] = len(numbers)
                    rows.append([space.store.kind(number)] + space.store.slots(number))
                found.append(("object", numbers[number]))
            else:
                found.append(word)
        found.append("end")
    return found


def run_program(seed, moments, always):
    """Runs random calls; returns the answers and what is reached behind each."""
    chance = random.Random(seed)
    room, entries = chance.randrange(12, 50), chance.randrange(2, 9)
    space = Space(room, entries)
    space.press(moments, always=always)
    answers = []
    for _ in range(40):
        answers.append(random_call(space, chance))
        answers.append(shape(space))
    return answers


def random_call(space, chance):
    """Does one random call that uses only what the space reaches."""
    action, k, other = chance.randrange(4), chance.randrange(6), chance.randrange(6)
    size, at = chance.randrange(4), chance.randrange(4)
    word = space.root(other)
    if action == 0:
        space.set_root(k, chance.choice([word, 0, 5]))
    elif action == 1:
        number = space.root(k) // 2
        if space.root(k) % 2 == 0 and space.store.exists(number) and at < space.store.size(number):
            space.store.put(number, at, word)
    else:
        reached = space.live_words()
        try:
            space.set_root(k, 2 * space.new(word, size))
        except NoRoom as error:
            assert reached > space.store.room - 3 - size
            return ("NoRoom", error.need)
        except NoNumber as error:
            return ("NoNumber", error.limit)
        assert reached <= space.store.room - 3 - size
    return None


class Moments(unittest.TestCase):
    def test_they_change_neither_errors_nor_what_is_reached(self):
        errors = 0
        for seed in range(60):
            plain = run_program(seed, [], False)
            errors += len([answer for answer in plain if isinstance(answer, tuple)])
            self.assertEqual(run_program(seed, [], True), plain)
            self.assertEqual(run_program(seed, [1, 3, 4, 8, 13], False), plain)
        self.assertGreater(errors, 20)


if __name__ == "__main__":
    unittest.main()
