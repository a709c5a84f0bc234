"""Looking up and putting methods: points 14.1 and 14.3."""

import unittest

from saggar.kernel import define_class, new_image
from saggar.lookup import lookup, own_method, put_method, selectors
from saggar.words import of_int
from tests.images import check_want_of_numbers, check_want_of_room, picture


def points():
    image = new_image(4000, 400)
    define_class(image, "Point", "Object", ["x", "y"])
    define_class(image, "Spot", "Point", ["colour"])
    return image


def methods_of(image, word):
    """Returns the slots of the Array of the methods of a class."""
    return image.items(image.get(word, 3))


class Putting(unittest.TestCase):
    def setUp(self):
        self.image = points()
        self.point = self.image.class_named("Point")
        self.words = [self.image.symbol(text) for text in ("a", "b", "c")]

    def test_adding_behind_the_others(self):
        image, point, (a, b, c) = self.image, self.point, self.words
        self.assertEqual(selectors(image, point), [])
        self.assertIsNone(put_method(image, point, b, of_int(7)))
        self.assertEqual(methods_of(image, point), [b, of_int(7)])
        old = image.get(point, 3)
        put_method(image, point, a, of_int(8))
        put_method(image, point, c, of_int(7))
        self.assertEqual(methods_of(image, point), [b, of_int(7), a, of_int(8), c, of_int(7)])
        self.assertEqual(selectors(image, point), ["b", "a", "c"])
        self.assertEqual(image.class_of(image.get(point, 3)), image.kernel("Array"))
        # A new Array was made, and the old one stays as it was.
        self.assertNotEqual(image.get(point, 3), old)
        self.assertEqual([image.items(old), image.space.held()], [[b, of_int(7)], 0])

    def test_replacing_in_place(self):
        image, point, (a, b, c) = self.image, self.point, self.words
        for k, word in enumerate((a, b, c)):
            put_method(image, point, word, of_int(k))
        table, made = image.get(point, 3), image.space.allocations
        for k, word in enumerate((b, a, c, b)):
            put_method(image, point, word, of_int(10 + k))
        self.assertEqual(methods_of(image, point), [a, of_int(11), b, of_int(13), c, of_int(12)])
        self.assertEqual([image.get(point, 3), image.space.allocations], [table, made])

    def test_a_symbol_among_the_methods_is_no_selector(self):
        image, point, (a, b, _) = self.image, self.point, self.words
        put_method(image, point, a, b)
        put_method(image, point, b, a)
        self.assertEqual([own_method(image, point, a), own_method(image, point, b)], [b, a])
        self.assertEqual(methods_of(image, point), [a, b, b, a])

    def test_one_class_only(self):
        image, point, (a, _, _) = self.image, self.point, self.words
        before = [methods_of(image, word) for word in image.class_words() if word != point]
        put_method(image, point, a, of_int(1))
        self.assertEqual([methods_of(image, word) for word in image.class_words() if word != point], before)

    def test_a_method_that_nothing_else_reaches(self):
        image, point, (a, _, _) = self.image, self.point, self.words
        image.space.press([], always=True)
        method = image.array([of_int(5), of_int(6)])
        put_method(image, point, a, method)
        found = own_method(image, point, a)
        self.assertEqual([image.items(found), image.space.held()], [[of_int(5), of_int(6)], 0])

    def test_want_of_room(self):
        def put(image):
            put_method(image, image.class_named("Point"), image.symbol("b"), image.class_named("Point"))

        self.assertEqual(check_want_of_room(self, self.with_one, put), [4])
        check_want_of_numbers(self, self.with_one, put)

    def with_one(self):
        image = points()
        put_method(image, image.class_named("Point"), image.symbol("a"), of_int(3))
        image.symbol("b")
        return image

    def test_replacing_needs_no_room(self):
        image = self.with_one()
        image.space.collect()
        image.store().room = image.store().used()
        put_method(image, image.class_named("Point"), image.symbol("a"), of_int(9))
        self.assertEqual(own_method(image, image.class_named("Point"), image.symbol("a")), of_int(9))


class LookingUp(unittest.TestCase):
    def setUp(self):
        self.image = points()
        self.classes = [self.image.class_named(name) for name in ("Object", "Point", "Spot")]
        self.words = [self.image.symbol(text) for text in ("a", "b", "c", "d")]
        for word, selector, method in [(0, 0, 1), (1, 1, 2), (2, 2, 3), (0, 2, 4), (1, 0, 5)]:
            put_method(self.image, self.classes[word], self.words[selector], of_int(method))

    def found(self, function):
        rows = [[function(self.image, word, selector) for selector in self.words] for word in self.classes]
        return [[None if word is None else word // 4 for word in row] for row in rows]

    def test_own_methods(self):
        self.assertEqual(self.found(own_method), [[1, None, 4, None], [5, 2, None, None], [None, None, 3, None]])

    def test_upwards(self):
        self.assertEqual(self.found(lookup), [[1, None, 4, None], [5, 2, 4, None], [5, 2, 3, None]])

    def test_other_classes(self):
        image = self.image
        self.assertEqual(lookup(image, image.kernel("Array"), self.words[0]), of_int(1))
        self.assertIsNone(lookup(image, image.kernel("Array"), self.words[1]))

    def test_nothing_changes(self):
        before = [picture(self.image), self.image.symbols.texts()]
        self.found(lookup)
        self.found(own_method)
        selectors(self.image, self.classes[0])
        self.assertEqual([picture(self.image), self.image.symbols.texts()], before)

    def test_selectors(self):
        self.assertEqual([selectors(self.image, word) for word in self.classes], [["a", "c"], ["b", "a"], ["c"]])
        selectors(self.image, self.classes[0]).append("x")
        self.assertEqual(selectors(self.image, self.classes[0]), ["a", "c"])


if __name__ == "__main__":
    unittest.main()
