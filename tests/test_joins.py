import unittest
from itertools import product

from rightskept.errors import RightsError, TextError
from rightskept.types import converts, joins, meets, plain
from tables import Order, flattened, goes, value_types


class JoinsTest(unittest.TestCase):
    def test_example(self):
        self.assertEqual(joins(("rw", "rw"), ("rw", "r")), [("r", "r"), ("w", "rw")])
        self.assertEqual(meets(("r", "r"), ("w", "rw")), [("rw", "r"), ("rw", "rw")])

    def test_numbers(self):
        self.assertEqual(joins((), ()), [()])
        self.assertEqual(meets((), ()), [()])

    def test_one_right(self):
        self.assertEqual(joins(("r",), ("w",)), [("-",)])
        self.assertEqual(meets(("r",), ("w",)), [("rw",)])
        self.assertEqual(joins(("rw",), ("r",)), [("r",)])
        self.assertEqual(meets(("rw",), ("r",)), [("rw",)])

    def test_all_pairs(self):
        for length in range(4):
            order = Order(length)
            for one, two in product(order.all, repeat=2):
                self.assertEqual(joins(one, two), order.joins(one, two), (one, two))
                self.assertEqual(meets(one, two), order.meets(one, two), (one, two))

    def test_no_meet_at_all(self):
        self.assertEqual(meets(("rw", "rw"), ("rw", "r")), [])
        self.assertEqual(meets(("w", "r"), ("r", "rw")), [])
        order = Order(2)
        none = [(one, two) for one, two in product(order.all, repeat=2) if not meets(one, two)]
        self.assertTrue(none)
        for one, two in none:
            self.assertFalse(order.down[one] & order.down[two])

    def test_there_always_is_a_join(self):
        for length in range(4):
            for one, two in product(value_types(length), repeat=2):
                self.assertTrue(joins(one, two))

    def test_plain_ascending_once(self):
        for one, two in product(value_types(3), repeat=2):
            for told in (joins(one, two), meets(one, two)):
                self.assertIs(type(told), list)
                self.assertEqual(told, sorted(set(told)))
                self.assertEqual(told, [plain(form) for form in told])

    def test_of_alike_ones(self):
        for one in value_types(3):
            self.assertEqual(joins(one, one), [flattened(one)])
            self.assertEqual(meets(one, one), [flattened(one)])

    def test_length_four(self):
        order = Order(4)
        some = order.all[::13]
        for one, two in product(some, repeat=2):
            self.assertEqual(joins(one, two), order.joins(one, two), (one, two))
            self.assertEqual(meets(one, two), order.meets(one, two), (one, two))

    def test_unlike_lengths(self):
        for one, two in [((), ("r",)), (("r",), ()), (("rw",), ("rw", "rw")), (("-",) * 4, ("-",) * 3)]:
            for ask in (joins, meets):
                with self.assertRaises(RightsError) as caught:
                    ask(one, two)
                self.assertEqual(caught.exception.reason, "other length")
                self.assertNotIsInstance(caught.exception, TextError)

    def test_somewhat_beyond(self):
        one, two = ("rw",) * 5, ("rw",) * 4 + ("r",)
        for top in joins(one, two):
            self.assertTrue(goes(one, top) and goes(two, top))
        self.assertEqual(joins(("-",) * 6, ("-", "r", "w", "rw", "-", "r")), [("-",) * 6])
        self.assertEqual(meets(("-",) * 6, ("-",) * 6), [("-",) * 6])

    def test_told_lists_belong_to_the_caller(self):
        for ask in (joins, meets):
            told = ask(("r", "r"), ("w", "rw"))
            kept = list(told)
            told.clear()
            self.assertEqual(ask(("r", "r"), ("w", "rw")), kept)

    def test_words_of_point_8(self):
        for one, two in product(value_types(2), repeat=2):
            for top in joins(one, two):
                self.assertTrue(converts(one, top) and converts(two, top))
            for low in meets(one, two):
                self.assertTrue(converts(low, one) and converts(low, two))
