"""The store and exchanging: points 02.1 to 02.6, 04.1 and 04.2."""

import random
import unittest

from saggar.errors import NoNumber, NoRoom, SaggarError
from saggar.store import HEADER, Store


def filled(sizes, room=1000, entries=100):
    """Returns a store with objects of some sizes, all slots different."""
    store = Store(room, entries)
    for k, size in enumerate(sizes):
        number = store.allocate(4 * k + 1, size)
        for at in range(size):
            store.put(number, at, 400 * k + 4 * at + 3)
    return store


def picture(store):
    """Returns all that can be seen of a store."""
    objects = [(n, store.size(n), store.kind(n), store.slots(n)) for n in store.numbers()]
    return [store.room, store.entries, list(store.words), store.used(), objects]


class Allocating(unittest.TestCase):
    def test_empty_store(self):
        self.assertEqual(HEADER, 3)
        store = Store(10, 4)
        self.assertEqual([store.room, store.entries, store.words], [10, 4, []])
        self.assertEqual([store.used(), store.numbers(), store.free_number()], [0, [], 0])
        self.assertIs(store.exists(0), False)

    def test_objects_lie_one_behind_the_other(self):
        store = Store(100, 10)
        self.assertEqual(store.allocate(5, 2), 0)
        self.assertEqual(store.words, [0, 2, 5, 0, 0])
        self.assertEqual(store.allocate(0, 0), 1)
        self.assertEqual(store.words, [0, 2, 5, 0, 0, 1, 0, 0])
        self.assertEqual(store.allocate(2, 1), 2)
        self.assertEqual(store.words, [0, 2, 5, 0, 0, 1, 0, 0, 2, 1, 2, 0])
        self.assertEqual([store.used(), store.numbers()], [12, [0, 1, 2]])
        self.assertEqual([store.size(n) for n in (0, 1, 2)], [2, 0, 1])
        self.assertEqual([store.kind(n) for n in (0, 1, 2)], [5, 0, 2])

    def test_kinds_and_slots_change_in_the_list(self):
        store = filled([2, 1])
        store.set_kind(0, 9)
        store.put(0, 1, 11)
        store.put(1, 0, 2)
        self.assertEqual(store.words, [0, 2, 9, 3, 11, 1, 1, 5, 2])
        self.assertEqual([store.kind(0), store.get(0, 0), store.get(0, 1), store.get(1, 0)], [9, 3, 11, 2])
        self.assertEqual([store.slots(0), store.slots(1)], [[3, 11], [2]])

    def test_existing_numbers(self):
        store = filled([0, 0, 0])
        store.drop(1)
        self.assertEqual([store.exists(n) for n in (-1, 0, 1, 2, 3, 10 ** 30)], [False, True, False, True, False, False])
        self.assertEqual(store.numbers(), [0, 2])

    def test_the_least_free_number(self):
        store = filled([0] * 6)
        for number in (4, 1, 3):
            store.drop(number)
        self.assertEqual(store.free_number(), 1)
        self.assertEqual([store.allocate(0, 0) for _ in range(5)], [1, 3, 4, 6, 7])
        store.drop(0)
        store.drop(7)
        store.close_up()
        self.assertEqual([store.allocate(0, 0) for _ in range(3)], [0, 7, 8])

    def test_no_room_exactly_when_it_is_due(self):
        store = Store(12, 10)
        store.allocate(0, 2)
        with self.assertRaises(NoRoom) as caught:
            store.allocate(0, 5)
        self.assertEqual(caught.exception.need, 8)
        self.assertIsInstance(caught.exception, SaggarError)
        self.assertEqual(store.allocate(0, 4), 1)
        self.assertEqual(store.used(), 12)
        with self.assertRaises(NoRoom) as caught:
            store.allocate(0, 0)
        self.assertEqual(caught.exception.need, 3)
        with self.assertRaises(NoRoom) as caught:
            store.allocate(0, 10 ** 30)
        self.assertEqual(caught.exception.need, 10 ** 30 + 3)

    def test_no_number_exactly_when_it_is_due(self):
        store = Store(100, 2)
        self.assertEqual([store.allocate(0, 0), store.allocate(0, 0)], [0, 1])
        for call in (store.free_number, lambda: store.allocate(0, 0)):
            with self.assertRaises(NoNumber) as caught:
                call()
            self.assertEqual(caught.exception.limit, 2)
        store.drop(0)
        self.assertEqual([store.free_number(), store.allocate(0, 0)], [0, 0])

    def test_no_room_comes_before_no_number(self):
        store = Store(8, 2)
        store.allocate(0, 0)
        store.allocate(0, 0)
        with self.assertRaises(NoRoom):
            store.allocate(0, 0)
        wide = Store(9, 2)
        wide.allocate(0, 0)
        wide.allocate(0, 0)
        with self.assertRaises(NoNumber):
            wide.allocate(0, 0)
        with self.assertRaises(NoRoom):
            wide.allocate(0, 1)

    def test_a_call_that_raises_changes_nothing(self):
        store = Store(14, 3)
        for size in (0, 1, 0):
            store.allocate(1, size)
        store.drop(1)
        before = picture(store)
        with self.assertRaises(NoRoom):
            store.allocate(5, 2)
        self.assertEqual(picture(store), before)
        self.assertEqual(store.allocate(0, 1), 1)
        before = picture(store)
        with self.assertRaises(NoNumber):
            store.free_number()
        with self.assertRaises(NoRoom):
            store.allocate(5, 0)
        self.assertEqual(picture(store), before)
        wide = Store(100, 1)
        wide.allocate(0, 0)
        before = picture(wide)
        with self.assertRaises(NoNumber):
            wide.allocate(5, 0)
        self.assertEqual(picture(wide), before)
        wide.drop(0)
        self.assertEqual(wide.allocate(0, 0), 0)

    def test_no_room_at_all_and_no_numbers_at_all(self):
        with self.assertRaises(NoRoom) as caught:
            Store(0, 5).allocate(0, 0)
        self.assertEqual(caught.exception.need, 3)
        with self.assertRaises(NoRoom):
            Store(2, 0).allocate(0, 0)
        for call in (Store(3, 0).free_number, lambda: Store(3, 0).allocate(0, 0)):
            with self.assertRaises(NoNumber) as caught:
                call()
            self.assertEqual(caught.exception.limit, 0)

    def test_returned_lists_are_new(self):
        store = filled([2, 0])
        store.slots(0).append(7)
        store.slots(0)[0] = 99
        store.numbers().append(5)
        self.assertEqual([store.slots(0), store.numbers()], [[3, 7], [0, 1]])


class Dropping(unittest.TestCase):
    def test_the_integers_stay_until_closing_up(self):
        store = filled([1, 2, 0])
        before = list(store.words)
        store.drop(1)
        self.assertEqual([store.words, store.used(), store.numbers()], [before, 12, [0, 2]])
        store.close_up()
        self.assertEqual(store.words, [0, 1, 1, 3, 2, 0, 9])
        self.assertEqual([store.kind(0), store.slots(0), store.kind(2), store.slots(2)], [1, [3], 9, []])

    def test_dropped_integers_count_as_used(self):
        store = Store(7, 9)
        store.allocate(0, 1)
        store.allocate(0, 0)
        store.drop(0)
        with self.assertRaises(NoRoom):
            store.allocate(0, 0)
        store.close_up()
        self.assertEqual([store.allocate(0, 1), store.words], [0, [1, 0, 0, 0, 1, 0, 0]])

    def test_a_number_that_is_used_again_before_closing_up(self):
        store = filled([1, 1, 1])
        store.drop(1)
        self.assertEqual(store.allocate(21, 2), 1)
        store.drop(1)
        self.assertEqual(store.allocate(25, 0), 1)
        self.assertEqual(len(store.words), 20)
        store.close_up()
        self.assertEqual(store.words, [0, 1, 1, 3, 2, 1, 9, 803, 1, 0, 25])
        self.assertEqual([store.kind(1), store.slots(2)], [25, [803]])

    def test_closing_up_without_anything_dropped(self):
        store = filled([2, 0, 3])
        before = picture(store)
        store.close_up()
        self.assertEqual(picture(store), before)
        empty = Store(5, 5)
        empty.close_up()
        self.assertEqual(empty.words, [])

    def test_dropping_everything(self):
        store = filled([2, 0, 3])
        for number in (2, 0, 1):
            store.drop(number)
        store.close_up()
        self.assertEqual([store.words, store.numbers(), store.free_number()], [[], [], 0])


class Snapshots(unittest.TestCase):
    def test_restored_more_than_once(self):
        store = filled([1, 2, 0])
        store.drop(1)
        before = picture(store)
        snapshot = store.snapshot()
        for _ in range(3):
            store.put(0, 0, 77)
            store.set_kind(2, 81)
            store.allocate(0, 3)
            store.allocate(0, 1)
            store.drop(0)
            store.close_up()
            self.assertNotEqual(picture(store), before)
            store.restore(snapshot)
            self.assertEqual(picture(store), before)
            self.assertEqual(store.free_number(), 1)
        self.assertEqual([store.allocate(0, 0), store.allocate(0, 0)], [1, 3])

    def test_dropped_objects_exist_again(self):
        store = filled([1, 1])
        snapshot = store.snapshot()
        store.drop(0)
        store.drop(1)
        store.close_up()
        store.restore(snapshot)
        self.assertEqual([store.numbers(), store.slots(1), store.free_number()], [[0, 1], [403], 2])

    def test_several_snapshots(self):
        store = filled([1])
        first = store.snapshot()
        store.allocate(5, 2)
        second = store.snapshot()
        store.exchange(0, 1)
        for snapshot, used, numbers in ((first, 4, [0]), (second, 9, [0, 1]), (first, 4, [0])):
            store.restore(snapshot)
            self.assertEqual([store.used(), store.numbers(), store.kind(0)], [used, numbers, 1])

    def test_closing_up_behind_a_restored_snapshot(self):
        store = filled([1, 2, 1])
        store.drop(1)
        snapshot = store.snapshot()
        store.close_up()
        store.allocate(0, 0)
        store.restore(snapshot)
        store.close_up()
        self.assertEqual(store.words, [0, 1, 1, 3, 2, 1, 9, 803])


class Exchanging(unittest.TestCase):
    def test_objects_of_different_sizes(self):
        store = filled([2, 0, 1])
        before = list(store.words)
        store.exchange(0, 2)
        self.assertEqual([store.size(0), store.kind(0), store.slots(0)], [1, 9, [803]])
        self.assertEqual([store.size(2), store.kind(2), store.slots(2)], [2, 1, [3, 7]])
        self.assertEqual([store.size(1), store.kind(1)], [0, 5])
        differing = [k for k, word in enumerate(before) if store.words[k] != word]
        self.assertEqual(differing, [0, 8])
        self.assertEqual([store.words[0], store.words[8], len(store.words)], [2, 0, len(before)])

    def test_an_object_with_itself(self):
        store = filled([2, 1])
        before = picture(store)
        store.exchange(1, 1)
        self.assertEqual(picture(store), before)

    def test_twice(self):
        for pair in ((0, 1), (1, 0)):
            store = filled([2, 1, 3])
            before = picture(store)
            store.exchange(0, 1)
            self.assertNotEqual(picture(store), before)
            store.exchange(*pair)
            self.assertEqual(picture(store), before)

    def test_it_needs_no_room(self):
        store = Store(10, 2)
        store.allocate(1, 4)
        store.allocate(5, 0)
        store.exchange(0, 1)
        self.assertEqual([store.size(0), store.size(1), store.used()], [0, 4, 10])

    def test_slots_change_where_the_object_is_now(self):
        store = filled([2, 1])
        store.exchange(0, 1)
        store.put(0, 0, 15)
        store.set_kind(1, 19)
        self.assertEqual(store.words, [1, 2, 19, 3, 7, 0, 1, 5, 15])

    def test_dropping_and_closing_up_behind_an_exchange(self):
        store = filled([2, 1, 0])
        store.exchange(0, 1)
        store.drop(0)
        store.close_up()
        self.assertEqual(store.words, [1, 2, 1, 3, 7, 2, 0, 9])
        self.assertEqual(store.free_number(), 0)

    def test_an_exchange_beside_a_dropped_object(self):
        store = filled([1, 1, 1])
        store.drop(0)
        store.allocate(41, 0)
        store.exchange(0, 2)
        store.close_up()
        self.assertEqual(store.words, [1, 1, 5, 403, 0, 1, 9, 803, 2, 0, 41])


class Model:
    """The plainest store: rows in the order of the list, some of them dropped."""

    def __init__(self, room, entries):
        self.room = room
        self.entries = entries
        self.rows = []

    def live(self):
        return {row["number"]: row for row in self.rows if row["number"] is not None}

    def words(self):
        found = []
        for row in self.rows:
            found += [row["shown"], len(row["slots"]), row["kind"]] + row["slots"]
        return found

    def allocate(self, kind, size):
        if len(self.words()) + 3 + size > self.room:
            return ("NoRoom", 3 + size)
        free = [n for n in range(self.entries) if n not in self.live()]
        if not free:
            return ("NoNumber", self.entries)
        self.rows.append({"number": free[0], "shown": free[0], "kind": kind, "slots": [0] * size})
        return free[0]

    def drop(self, number):
        self.live()[number]["number"] = None

    def close_up(self):
        self.rows = [row for row in self.rows if row["number"] is not None]

    def exchange(self, first, second):
        one, other = self.live()[first], self.live()[second]
        one["number"] = one["shown"] = second
        other["number"] = other["shown"] = first


class AgainstTheModel(unittest.TestCase):
    def allocate_both(self, store, model, chance):
        kind, size = chance.randrange(9), chance.randrange(5)
        try:
            answer = store.allocate(kind, size)
        except NoRoom as error:
            answer = ("NoRoom", error.need)
        except NoNumber as error:
            answer = ("NoNumber", error.limit)
        self.assertEqual(answer, model.allocate(kind, size))

    def change_both(self, store, model, chance):
        numbers = sorted(model.live())
        if not numbers:
            return
        first, second = chance.choice(numbers), chance.choice(numbers)
        action = chance.randrange(4)
        if action == 0:
            store.drop(first)
            model.drop(first)
        elif action == 1:
            store.exchange(first, second)
            if first != second:
                model.exchange(first, second)
        elif action == 2:
            store.set_kind(first, 13)
            model.live()[first]["kind"] = 13
        elif model.live()[first]["slots"]:
            at = chance.randrange(store.size(first))
            store.put(first, at, 17)
            model.live()[first]["slots"][at] = 17

    def test_random_calls(self):
        for seed in range(60):
            chance = random.Random(seed)
            room, entries = chance.randrange(60), chance.randrange(12)
            store, model = Store(room, entries), Model(room, entries)
            for _ in range(60):
                if chance.random() < 0.5:
                    self.allocate_both(store, model, chance)
                elif chance.random() < 0.15:
                    store.close_up()
                    model.close_up()
                else:
                    self.change_both(store, model, chance)
                self.assertEqual(store.words, model.words())
                self.assertEqual(store.numbers(), sorted(model.live()))
                for number, row in model.live().items():
                    self.assertEqual([store.kind(number), store.slots(number)], [row["kind"], row["slots"]])


if __name__ == "__main__":
    unittest.main()
