"""Points 1 and 16: a store, the writes that it takes and those that it refuses."""

import inspect
import unittest

from fencegate.store import Store


def store_with(*writes):
    """A store that was handed these (number, holder, lock, value) in their order."""
    store = Store()
    for write in writes:
        store.take(*write)
    return store


class TheInterface(unittest.TestCase):
    def test_the_arguments(self):
        self.assertEqual(list(inspect.signature(Store).parameters), [])
        self.assertEqual(list(inspect.signature(Store().take).parameters), ["number", "holder", "lock", "value"])
        self.assertEqual(list(inspect.signature(Store().taken).parameters), [])

    def test_the_kinds_told(self):
        told = store_with((1, "ann", "a", 0)).taken()
        self.assertIs(type(told), list)
        self.assertIs(type(told[0]), tuple)


class Writes(unittest.TestCase):
    def test_a_fresh_store(self):
        self.assertEqual(Store().top, 0)
        self.assertEqual(Store().taken(), [])

    def test_a_number_above_the_top(self):
        store = Store()
        self.assertIs(store.take(1, "ann", "a", 7), True)
        self.assertEqual((store.top, store.taken()), (1, [(1, "ann", "a", 7)]))
        self.assertIs(store.take(2, "bob", "b", 8), True)
        self.assertEqual((store.top, store.taken()), (2, [(1, "ann", "a", 7), (2, "bob", "b", 8)]))
        self.assertIs(store.take(50, "eve", "c/d", 9), True)
        self.assertEqual((store.top, store.taken()[2:]), (50, [(50, "eve", "c/d", 9)]))

    def test_a_number_at_the_top(self):
        store = store_with((5, "ann", "a", 7))
        self.assertIs(store.take(5, "ann", "a", 8), True)
        self.assertIs(store.take(5, "ann", "a", 8), True)
        self.assertEqual((store.top, store.taken()), (5, [(5, "ann", "a", 7), (5, "ann", "a", 8), (5, "ann", "a", 8)]))

    def test_a_number_below_the_top_changes_nothing(self):
        for number in [1, 2, 3, 4]:
            store = store_with((5, "ann", "a", 7))
            self.assertIs(store.take(number, "bob", "a", 8), False)
            self.assertEqual((store.top, store.taken()), (5, [(5, "ann", "a", 7)]))
            self.assertIs(store.take(number, "bob", "a", 8), False)
            self.assertIs(store.take(5, "ann", "a", 9), True)

    def test_the_top_is_the_stores_and_not_a_locks_or_a_holders(self):
        store = store_with((5, "ann", "a", 7))
        self.assertIs(store.take(4, "ann", "a", 8), False)
        self.assertIs(store.take(4, "ann", "b", 8), False)
        self.assertIs(store.take(4, "bob", "b", 8), False)
        self.assertIs(store.take(5, "bob", "b", 8), True)

    def test_values_are_kept_as_they_came(self):
        values = [3, 0, 999999999999, 3, 1, 0]
        store = store_with(*[(place + 1, "ann", "a", value) for place, value in enumerate(values)])
        self.assertEqual([row[3] for row in store.taken()], values)

    def test_writes_are_told_as_they_came_and_not_by_name_or_value(self):
        writes = [(1, "zoe", "z", 9), (1, "ann", "a", 1), (2, "kim", "k", 5), (2, "bob", "b", 0)]
        self.assertEqual(store_with(*writes).taken(), writes)

    def test_great_numbers(self):
        store = store_with((999999999999, "ann", "a", 1))
        self.assertIs(store.take(999999999998, "bob", "a", 2), False)
        self.assertIs(store.take(999999999999, "bob", "a", 2), True)
        self.assertEqual(store.top, 999999999999)

    def test_two_stores_are_apart(self):
        one = Store()
        other = Store()
        one.take(9, "ann", "a", 1)
        self.assertEqual((other.top, other.taken()), (0, []))
        self.assertIs(other.take(1, "bob", "a", 2), True)
        self.assertEqual((one.top, one.taken()), (9, [(9, "ann", "a", 1)]))

    def test_a_told_list_is_the_askers_own(self):
        store = store_with((1, "ann", "a", 7), (2, "bob", "a", 8))
        writes = [(1, "ann", "a", 7), (2, "bob", "a", 8)]
        store.taken().clear()
        store.taken().append((9, "eve", "a", 1))
        store.taken().reverse()
        self.assertEqual((store.top, store.taken()), (2, writes))
        told = store.taken()
        store.take(3, "eve", "a", 9)
        self.assertEqual(told, writes)

    def test_asking_changes_nothing(self):
        store = store_with((4, "ann", "a", 7))
        store.taken()
        self.assertEqual((store.top, store.taken()), (4, [(4, "ann", "a", 7)]))


if __name__ == "__main__":
    unittest.main()
