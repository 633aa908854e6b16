"""Points 59 to 68: devices that have one book."""

import copy
import random
import unittest

from everydue.books import Book
from everydue.calendars import GREGORIAN
from everydue.daysets import single
from everydue.devices import Device
from everydue.errors import BadDeed, NotSettled, TooLate
from everydue.zones import UTC
from tests.odd_values import deep
from tests.plain_books import CALENDARS, NAMES, some_deed
from tests.plain_devices import PlainDevice
from tests.test_books import held

A, B, C = ("days", (1,)), ("days", (2,)), ("name", "a")

ACTIONS = [
    ("put", "a", A), ("put", "abcdefghijkl", ("name", "a")), ("drop", "a"), ("put zone", "a", (2000, ((5, -2000),), None)), ("drop zone", "z"),
    ("reform", GREGORIAN), ("undo", (1, 0)), ("undo", (10 ** 50, 15)),
]

ODD_STAMPS = [None, True, 5, "1", (), (1,), (1, 0, 0), (0, 0), (-1, 0), (True, 0), (1, True), (1, False), (1, -1), (1, 16), (1, None), ("1", 0),
              [1, 0], (1, (0,)), ((1,), 0), deep(tuple, 20000), deep(list, 20000)]

BAD_ACTIONS = [
    None, True, 0, "put", "", (), [], ("put",), ("put", "a"), ("put", "a", A, 0), ("put", "A", A), ("put", "", A), ("put", None, A), ("put", ("a",), A),
    ("put", "a", ("foo",)), ("put", "a", None), ("put", "a", ("days", (True,))), ("put", "a", deep(tuple, 20000)), ["put", "a", A],
    ("drop",), ("drop", "A"), ("drop", "a", "b"), ("drop", 5), ("drop", deep(list, 20000)), ("put zone", "a"), ("put zone", "A", UTC),
    ("put zone", "a", (2001, (), None)), ("put zone", "a", None), ("put zone", "a", (0, ())), ("put-zone", "a", UTC), ("put_zone", "a", UTC),
    ("drop zone",), ("drop zone", ""), ("drop zone", "a", "a"), ("drop-zone", "a"), ("reform",), ("reform", None), ("reform", GREGORIAN[:6]),
    ("reform", (*GREGORIAN, 0)), ("reform", (*GREGORIAN[:6], 0)), ("reform", (*GREGORIAN[:6], True)), ("reform", list(GREGORIAN)),
    ("reform", ((1,), 1, 0, ((997, True), (991, True)), 1, 0, 1)), ("reform", GREGORIAN, 0), ("undo",), ("undo", (1, 0), 0),
    *[("undo", stamp) for stamp in ODD_STAMPS], (None, "a"), (True, "a"), (("drop",), "a"), (["drop"], "a"), ("foo", "a"), ("Drop", "a"),
    (deep(tuple, 20000), "a"), (deep(list, 20000), "a"), deep(tuple, 20000), deep(list, 20000),
]


def told(book):
    """All that a book tells."""
    answers = {name: book.answer(name) for name in book.names()}
    return held(book), answers, book.made(), book.changed(), book.rows()


class DevicesTest(unittest.TestCase):

    def state(self, device):
        return device.deeds(), device.laid(), told(device.book())

    def test_make(self):
        device = Device(GREGORIAN, 3)
        self.assertEqual(device.make(("put", "a", A)), (1, 3))
        self.assertEqual(device.make(("put", "a", A)), (2, 3))
        self.assertIsNone(device.receive([((7, 15), ("drop", "a")), ((5, 2), ("drop", "b"))]))
        self.assertEqual(device.make(("undo", (7, 15))), (8, 3))
        self.assertEqual(device.deeds(), [((1, 3), ("put", "a", A)), ((2, 3), ("put", "a", A)), ((5, 2), ("drop", "b")), ((7, 15), ("drop", "a")),
                                          ((8, 3), ("undo", (7, 15)))])
        self.assertEqual(device.book().names(), [])

    def test_right_actions(self):
        for action in ACTIONS:
            device = Device(GREGORIAN, 0)
            self.assertEqual(device.make(action), (1, 0))
            self.assertIsNone(device.receive([((1, 0), action), ((1, 1), action), ((10 ** 40, 15), action)]))
            self.assertEqual(len(device.deeds()), 3)

    def test_bad_actions_and_deeds(self):
        device = Device(GREGORIAN, 0)
        device.make(("put", "a", A))
        before = self.state(device)
        good = ((2, 1), ("put", "b", B))
        for action in BAD_ACTIONS:
            with self.assertRaises(BadDeed) as caught:
                device.make(action)
            self.assertEqual(caught.exception.number, 0)
            for deeds, number in (([((2, 0), action)], 0), ([good, ((2, 0), action)], 1), ([good, good, ((1, 0), action), good], 2)):
                with self.assertRaises(BadDeed) as caught:
                    device.receive(deeds)
                self.assertEqual(caught.exception.number, number)
        for stamp in ODD_STAMPS:
            with self.assertRaises(BadDeed) as caught:
                device.receive([good, (stamp, ("drop", "a"))])
            self.assertEqual(caught.exception.number, 1)
        for deed in (None, True, 5, "", (), ((2, 0),), ((2, 0), ("drop", "a"), 0), [(2, 0), ("drop", "a")], deep(tuple, 20000), deep(list, 20000)):
            with self.assertRaises(BadDeed) as caught:
                device.receive([good, good, deed])
            self.assertEqual(caught.exception.number, 2)
        self.assertEqual(self.state(device), before)

    def test_one_stamp_with_one_action_and_with_two(self):
        device = Device(GREGORIAN, 0)
        device.make(("put", "a", A))
        before = self.state(device)
        one, two = ((2, 1), ("drop", "a")), ((2, 1), ("drop", "b"))
        for deeds, number in (([one, two], 1), ([one, one, two], 2), ([((1, 0), ("drop", "a"))], 0), ([one, ((1, 0), ("put", "a", B)), two], 1)):
            with self.assertRaises(BadDeed) as caught:
                device.receive(deeds)
            self.assertEqual(caught.exception.number, number)
        self.assertEqual(self.state(device), before)
        device.receive([one, ((1, 0), ("put", "a", A)), one])
        device.receive([one])
        self.assertEqual(len(device.deeds()), 2)
        # An integer is no True, also in what is kept already.
        with self.assertRaises(BadDeed):
            device.receive([((1, 0), ("put", "a", ("days", (True,))))])

    def test_news_and_lacks(self):
        device = Device(GREGORIAN, 0)
        self.assertEqual((device.deeds(), device.news([]), device.lacks([])), ([], [], []))
        for name in "abc":
            device.make(("drop", name))
        self.assertEqual(device.news([]), device.deeds())
        self.assertEqual(device.news([(2, 0), (2, 0), (2, 1), (9, 9)]), [((1, 0), ("drop", "a")), ((3, 0), ("drop", "c"))])
        self.assertEqual(device.lacks([(9, 9), (2, 0), (2, 1), (9, 9), (1, 5), (10, 0)]), [(1, 5), (2, 1), (9, 9), (10, 0)])

    def test_undoing(self):
        device = Device(GREGORIAN, 1)
        device.receive([
            ((1, 0), ("put", "a", A)), ((2, 0), ("put", "a", B)), ((3, 1), ("put", "b", A)),
            # of another device, of a greater count, of the same count, of what is not kept
            ((4, 1), ("undo", (2, 0))), ((5, 0), ("undo", (6, 0))), ((6, 0), ("put", "c", C)), ((7, 0), ("undo", (7, 0))), ((8, 0), ("undo", (3, 0))),
        ])
        self.assertEqual(device.book().expression("a"), B)
        self.assertEqual(device.book().names(), ["a", "b", "c"])
        device.receive([((9, 0), ("undo", (2, 0)))])
        self.assertEqual(device.book().expression("a"), A)
        device.receive([((10, 0), ("undo", (9, 0)))])
        self.assertEqual(device.book().expression("a"), B)
        device.receive([((11, 0), ("undo", (10, 0)))])
        self.assertEqual(device.book().expression("a"), A)
        # Two undos of one deed: both are to be undone.
        device.receive([((12, 0), ("undo", (2, 0))), ((13, 0), ("undo", (11, 0)))])
        self.assertEqual(device.book().expression("a"), A)
        device.receive([((14, 0), ("undo", (12, 0)))])
        self.assertEqual(device.book().expression("a"), B)

    def test_undo_and_redo_in_long_rows(self):
        device = Device(GREGORIAN, 2)
        self.assertEqual((device.undo_last(), device.redo_last()), (None, None))
        device.receive([((1, 0), ("put", "z", A))])
        self.assertEqual((device.undo_last(), device.redo_last()), (None, None))
        for name in "abcdef":
            device.make(("put", name, A))
        for many in range(6):
            self.assertEqual(device.undo_last(), (8 + many, 2))
            self.assertEqual(device.book().names(), [*"abcdef"[:5 - many], "z"])
        self.assertIsNone(device.undo_last())
        for many in range(6):
            self.assertEqual(device.redo_last(), (14 + many, 2))
            self.assertEqual(device.book().names(), [*"abcdef"[:many + 1], "z"])
        self.assertIsNone(device.redo_last())
        self.assertEqual(device.undo_last(), (20, 2))
        device.make(("put", "g", A))
        self.assertIsNone(device.redo_last())
        self.assertEqual(device.book().names(), [*"abcdegz"])
        self.assertEqual(device.undo_last(), (22, 2))
        self.assertEqual(device.redo_last(), (23, 2))
        self.assertIsNone(device.redo_last())

    def test_settling(self):
        device = Device(GREGORIAN, 0)
        self.assertIsNone(device.settle((9, 9)))
        for name in "abc":
            device.make(("put", name, A))
        device.receive([((5, 1), ("put", "d", A)), ((8, 0), ("undo", (3, 0)))])
        with self.assertRaises(NotSettled) as caught:
            device.settle((4, 0))
        self.assertEqual(caught.exception.stamp, (8, 0))
        with self.assertRaises(NotSettled):
            device.settle((8, -1))
        device.settle((2, 15))
        # Up to (2, 0) all is settled now: what is new there comes too late.
        late = ((2, 0), ("drop", "a"))
        for deeds, error, number in (
            ([((1, 1), ("drop", "a"))], TooLate, 0), ([((5, 1), ("put", "d", A)), ((1, 15), ("drop", "a"))], TooLate, 1),
            ([late], BadDeed, 0), ([((1, 1), ("drop", "a")), late], TooLate, 0), ([late, ((1, 1), ("drop", "a"))], BadDeed, 0),
            ([((1, 1), ("drop", "A"))], BadDeed, 0), ([((9, 9), ("drop", "a")), ((9, 9), ("drop", "b")), ((1, 1), ("drop", "a"))], BadDeed, 1),
        ):
            before = self.state(device)
            with self.assertRaises(error) as caught:
                device.receive(deeds)
            self.assertEqual(caught.exception.number, number)
            self.assertEqual(self.state(device), before)
        device.receive([((2, 0), ("put", "b", A)), ((2, 1), ("put", "e", A))])
        # An undo of what is settled has no effect; what it names stays.
        device.make(("undo", (1, 0)))
        self.assertEqual(device.book().names(), ["a", "b", "d", "e"])
        self.assertEqual(device.redo_last(), (10, 0))
        self.assertEqual(device.book().names(), ["a", "b", "c", "d", "e"])
        self.assertEqual(device.undo_last(), (11, 0))
        # What it would undo now is settled.
        self.assertIsNone(device.undo_last())
        device.settle((1, 5))
        with self.assertRaises(NotSettled) as caught:
            device.settle((9, 0))
        self.assertEqual(caught.exception.stamp, (10, 0))
        device.settle((12, 0))
        self.assertIsNone(device.redo_last())
        self.assertIsNone(device.undo_last())
        with self.assertRaises(TooLate) as caught:
            device.receive([((11, 0), ("undo", (3, 0))), ((9, 1), ("drop", "a"))])
        self.assertEqual(caught.exception.number, 1)

    def test_what_is_settled_once_is_for_good(self):
        device = Device(GREGORIAN, 0)
        device.make(("put", "a", A))
        device.settle((1, 0))
        device.make(("undo", (1, 0)))
        device.make(("put", "b", A))
        self.assertEqual(device.book().names(), ["a", "b"])
        # The undo is settled, too: it had no effect, and has none now.
        device.settle((3, 0))
        device.make(("put", "c", A))
        self.assertEqual(device.book().names(), ["a", "b", "c"])

    def test_laid(self):
        device = Device(GREGORIAN, 0)
        self.assertEqual(device.laid(), 0)
        for name in "abcd":
            device.make(("put", name, A))
            self.assertEqual(device.laid(), 1)
        device.receive([])
        self.assertEqual(device.laid(), 1)
        device.receive([((2, 1), ("drop", "x"))])
        self.assertEqual(device.laid(), 3)
        device.receive(device.deeds())
        device.book()
        device.settle((1, 0))
        with self.assertRaises(BadDeed):
            device.receive([((9, 9), None)])
        self.assertIsNone(device.redo_last())
        self.assertEqual(device.laid(), 3)
        device.make(("undo", (9, 9)))
        self.assertEqual(device.laid(), 0)
        device.undo_last()
        self.assertEqual(device.laid(), 0)
        device.redo_last()
        self.assertEqual(device.laid(), 1)
        device.receive([((3, 9), ("put", "a", B)), ((9, 9), ("put", "b", B))])
        self.assertEqual(device.laid(), 3)

    def test_what_is_returned_may_be_changed(self):
        device = Device(GREGORIAN, 0)
        device.make(("put", "a", A))
        device.make(("put", "b", C))
        before = self.state(device)
        book = device.book()
        self.assertIs(type(book), Book)
        book.put("a", B)
        book.put_zone("utc", UTC)
        book.drop("b")
        book.reform(CALENDARS[0])
        for rows in (device.deeds(), device.news([]), device.lacks([(7, 7)])):
            rows.clear()
        stamps, deeds = [(1, 0)], [((5, 5), ("drop", "q"))]
        kept = (list(stamps), list(deeds))
        device.news(stamps)
        device.lacks(stamps)
        self.assertEqual(self.state(device), before)
        device.receive(deeds)
        self.assertEqual((stamps, deeds), kept)
        deeds.clear()
        self.assertEqual(len(device.deeds()), 3)
        one, two = device.book(), device.book()
        one.put("a", B)
        self.assertEqual((one.answer("b"), two.answer("b")), (("days", single([2])), ("days", single([1]))))

    def test_zones_that_do_not_fit(self):
        device = Device(CALENDARS[0], 0)
        device.make(("put zone", "p", (5, (), None)))
        device.make(("put", "a", ("at", A, 1, "p", "both")))
        self.assertEqual(device.book().answer("a"), ("missing", "p"))
        self.assertEqual(device.book().zone("p"), (5, (), None))
        device.make(("reform", CALENDARS[1]))
        self.assertEqual(device.book().answer("a")[0], "moments")
        device.undo_last()
        self.assertEqual(device.book().answer("a"), ("missing", "p"))


def some_action(chance, kept):
    """An action, often an undo of something."""
    if chance.random() < 0.35:
        return ("undo", chance.choice([*kept, (chance.randint(1, 12), chance.randint(0, 2))]))
    deed = some_deed(chance)
    return (deed[0].replace("_", " "), *deed[1:])


class DevicesByChanceTest(unittest.TestCase):

    def same(self, device, plain):
        self.assertEqual(device.deeds(), sorted(plain.kept.items()))
        self.assertEqual(device.laid(), plain.laid)

    def test_against_plain_devices(self):
        chance = random.Random(591)
        found = {}
        for _ in range(60):
            calendar = chance.choice(CALENDARS)
            pairs = [(Device(calendar, k), PlainDevice(calendar, k)) for k in range(3)]
            settles = chance.random() < 0.6
            for _ in range(40):
                device, plain = chance.choice(pairs)
                kind = chance.choice(["make", "make", "receive", "receive", "undo", "undo", "redo", "settle" if settles else "make"])
                if kind == "make":
                    action = some_action(chance, list(plain.kept))
                    self.assertEqual(device.make(action), plain.make(action))
                elif kind == "undo":
                    stamp = device.undo_last()
                    self.assertEqual(stamp, plain.undo_last())
                    found["undo", stamp is None] = True
                elif kind == "redo":
                    stamp = device.redo_last()
                    self.assertEqual(stamp, plain.redo_last())
                    found["redo", stamp is None] = True
                elif kind == "settle":
                    stamp = (chance.randint(1, 12), chance.randint(0, 3))
                    error, before = plain.settle(stamp), device.laid()
                    found["settle", error is None] = True
                    if error is None:
                        self.assertIsNone(device.settle(stamp))
                    else:
                        with self.assertRaises(NotSettled) as caught:
                            device.settle(stamp)
                        self.assertEqual(caught.exception.stamp, error)
                    self.assertEqual(device.laid(), before)
                else:
                    self.try_receive(chance, pairs, device, plain, found)
                self.same(device, plain)
                if chance.random() < 0.3:
                    self.assertEqual(told(device.book()), told(plain.book()))
            for device, plain in pairs:
                self.assertEqual(told(device.book()), told(plain.book()))
            if not settles:
                self.try_all_deeds(chance, calendar, [device for device, _ in pairs])
        self.assertEqual(len(found), 9, found)

    def try_receive(self, chance, pairs, device, plain, found):
        other = chance.choice(pairs)[0]
        news = other.news([stamp for stamp, _ in device.deeds()])
        deeds = chance.sample(news, chance.randint(0, len(news)))
        deeds += chance.sample(other.deeds(), min(2, len(other.deeds())))
        if chance.random() < 0.2:
            deeds.append(((chance.randint(1, 12), chance.randint(0, 3)), some_action(chance, list(plain.kept))))
        chance.shuffle(deeds)
        copied = copy.deepcopy(deeds)
        error = plain.receive(deeds)
        if error is None:
            self.assertIsNone(device.receive(deeds))
        else:
            with self.assertRaises((BadDeed, TooLate)) as caught:
                device.receive(deeds)
            self.assertEqual((type(caught.exception).__name__, caught.exception.number), error)
        found["receive", error and error[0]] = True
        self.assertEqual(deeds, copied)

    def try_all_deeds(self, chance, calendar, devices):
        """Devices that keep the same deeds have the same book, in whatever order these came."""
        deeds = {}
        for device in devices:
            for deed in device.deeds():
                deeds.setdefault(deed[0], deed)
        rows = [*deeds.values(), *chance.sample(list(deeds.values()), len(deeds) // 2)]
        books = []
        for _ in range(3):
            device = Device(calendar, chance.randint(0, 15))
            left = list(rows)
            chance.shuffle(left)
            while left:
                many = chance.randint(1, 5)
                device.receive(left[:many])
                left = left[many:]
                if chance.random() < 0.3:
                    device.book()
            books.append(told(device.book()))
            self.assertEqual(device.deeds(), sorted(deeds.values(), key=lambda deed: deed[0]))
        self.assertEqual(books[0], books[1])
        self.assertEqual(books[0], books[2])


class NamesTest(unittest.TestCase):

    def test_the_names_of_the_plain_books_are_names(self):
        device = Device(GREGORIAN, 15)
        for name in NAMES:
            device.make(("drop", name))
        self.assertEqual(device.book().names(), [])


if __name__ == "__main__":
    unittest.main()
