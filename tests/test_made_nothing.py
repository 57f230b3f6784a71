"""Acts that are had but make nothing: on no object, on one of another kind, or of what is no element of that list."""

import unittest

from tests.helper import (COUNTER, INT_MAX, LIST, MAP, NOTHING, ROOT, add, add_message, ask, begin, counted, done, had,
                          had_numbers, hand, insert, insert_message, number, put, put_message, remove, remove_message,
                          row_of, set_key, set_message, since, take, tell)

# Of keeper 0: a map (1, 0), a list (2, 0) with an element (4, 0), a counter (3, 0), a number (5, 0), and another
# list (6, 0) with an element (7, 0).
BEFORE = (
    begin(0, 0), set_key(0, ROOT, b"m", MAP), set_key(0, ROOT, b"l", LIST), set_key(0, ROOT, b"c", COUNTER),
    insert(0, (2, 0), 0, number(4)), set_key(0, ROOT, b"n", number(5)), set_key(0, ROOT, b"o", LIST),
    insert(0, (6, 0), 0, number(7)),
)
DOCUMENT = b'{"c":#0,"l":[4],"m":{},"n":5,"o":[7]}'
IN_MAPS = (ROOT, (1, 0))
NO_OBJECTS = ((4, 0), (5, 0), (7, 0))
NO_ELEMENTS = ((1, 0), (2, 0), (3, 0), (5, 0), (7, 0))


class MadeNothing(unittest.TestCase):
    def nothing(self, one):
        """The act is had and given on, and the document stays."""
        given = ask(*BEFORE, take(0, one), had(0), tell(0), since(0, INT_MAX, [7, 0, 0, 0, 0, 0, 0, 0]),
                    set_key(0, ROOT, b"z", NOTHING))
        self.assertEqual(given[8:10], [[1], had_numbers(k0=7, k1=1)])
        self.assertEqual(bytes(given[10][1:]), DOCUMENT)
        self.assertEqual(given[11:], [counted(row_of(one)), done(10, 0)])

    def brings(self, kind, make):
        """The act makes nothing, but the object that it brings is there, can be acted on, and is told nowhere."""
        one = make([kind])
        self.nothing(one)
        use = {3: set_key(0, (9, 1), b"k", LIST), 4: insert(0, (9, 1), 0, LIST), 5: add(0, (9, 1), 1)}
        for other in (3, 4, 5):
            given = ask(*BEFORE, take(0, one), use[other], tell(0))
            self.assertEqual(given[9:], [done(10, 0) if other == kind else [-3], counted(DOCUMENT)])
        given = ask(*BEFORE, take(0, one), use[kind], insert(0, (10, 0), 0, MAP), tell(0))
        self.assertEqual(given[10:], [done(11, 0) if kind != 5 else [-3], counted(DOCUMENT)])

    def all_brought(self, make):
        self.nothing(make(number(1)))
        for kind in (3, 4, 5):
            self.brings(kind, make)

    def test_set_on_another_kind(self):
        for target in ((2, 0), (3, 0)) + NO_OBJECTS:
            with self.subTest(target=target):
                self.nothing(set_message(1, 1, 9, target, b"k", NOTHING))
                self.all_brought(lambda value: set_message(1, 1, 9, target, b"k", value))

    def test_insert_on_another_kind(self):
        for target in IN_MAPS + ((3, 0),) + NO_OBJECTS:
            for before in (ROOT, (4, 0)):
                with self.subTest(target=target, before=before):
                    self.all_brought(lambda value: insert_message(1, 1, 9, target, before, value))

    def test_put_on_another_kind(self):
        for target in IN_MAPS + ((3, 0),) + NO_OBJECTS:
            for element in (ROOT, (4, 0)):
                with self.subTest(target=target, element=element):
                    self.all_brought(lambda value: put_message(1, 1, 9, target, element, value))

    def test_remove_on_another_kind(self):
        for target in IN_MAPS + ((3, 0),) + NO_OBJECTS:
            for element in (ROOT, (4, 0)):
                self.nothing(remove_message(1, 1, 9, target, element))

    def test_add_on_another_kind(self):
        for target in IN_MAPS + ((2, 0),) + NO_OBJECTS:
            self.nothing(add_message(1, 1, 9, target, 5))

    def test_behind_what_is_no_element_of_that_list(self):
        for before in NO_ELEMENTS:
            with self.subTest(before=before):
                self.all_brought(lambda value: insert_message(1, 1, 9, (2, 0), before, value))

    def test_put_of_what_is_no_element_of_that_list(self):
        for element in NO_ELEMENTS + (ROOT,):
            with self.subTest(element=element):
                self.all_brought(lambda value: put_message(1, 1, 9, (2, 0), element, value))

    def test_remove_of_what_is_no_element_of_that_list(self):
        for element in NO_ELEMENTS + (ROOT,):
            self.nothing(remove_message(1, 1, 9, (2, 0), element))

    def test_an_insert_that_made_nothing_is_no_element(self):
        messages = [insert_message(1, 1, 9, (2, 0), (7, 0), MAP), insert_message(1, 2, 10, (2, 0), (9, 1), number(1)),
                    put_message(1, 3, 11, (2, 0), (9, 1), number(2)), remove_message(1, 4, 12, (2, 0), (9, 1)),
                    insert_message(1, 5, 13, (6, 0), (9, 1), number(3))]
        given = ask(*BEFORE, take(0, *messages), tell(0))
        self.assertEqual(given[8:], [[5], counted(DOCUMENT)])

    def test_a_put_brings_no_element(self):
        messages = [put_message(1, 1, 9, (2, 0), (4, 0), number(8)),
                    insert_message(1, 2, 10, (2, 0), (9, 1), number(1)),
                    put_message(1, 3, 11, (2, 0), (9, 1), number(2)), remove_message(1, 4, 12, (2, 0), (9, 1))]
        given = ask(*BEFORE, take(0, *messages), tell(0))
        self.assertEqual(given[8:], [[4], counted(DOCUMENT.replace(b"[4]", b"[8]"))])

    def test_removed_ones_are_still_behind_and_put(self):
        messages = [remove_message(1, 1, 9, (2, 0), (4, 0)), put_message(1, 2, 10, (2, 0), (4, 0), LIST),
                    insert_message(1, 3, 11, (2, 0), (4, 0), number(1)), insert_message(1, 4, 12, (10, 1), ROOT, MAP)]
        given = ask(*BEFORE, take(0, *messages), tell(0), insert(0, (10, 1), 1, MAP), put(0, (2, 0), 1, MAP),
                    remove(0, (2, 0), 0), tell(0))
        self.assertEqual(given[8:10], [[4], counted(DOCUMENT.replace(b"[4]", b"[1]"))])
        self.assertEqual(given[10:], [done(13, 0), [-2], done(14, 0), counted(DOCUMENT.replace(b"[4]", b"[]"))])

    def test_on_objects_that_are_told_nowhere_and_handed_on(self):
        given = ask(*BEFORE, begin(1, 1), take(0, set_message(2, 1, 9, (2, 0), b"k", LIST)), insert(0, (9, 2), 0, MAP),
                    hand(0, 1), insert(1, (9, 2), 1, MAP), insert(1, (9, 2), 3, MAP), tell(1), hand(1, 0), tell(0))
        self.assertEqual(given[11][1], 9)
        self.assertEqual(given[12:15], [done(11, 1), [-2], counted(DOCUMENT)])
        self.assertEqual(given[15:], [[23, 1], counted(DOCUMENT)])
