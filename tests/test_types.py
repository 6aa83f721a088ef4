import unittest
from itertools import product

from rightskept.types import (are_alike, bar, converts, is_bar, is_right, is_type, is_value_type, plain,
                              within)
from tables import RIGHTS, all_bars, flattened, goes, letters_of, value_types


class Hostile:
    """An object that answers nothing."""

    def __eq__(self, other):
        raise RuntimeError("asked")

    def __hash__(self):
        raise RuntimeError("asked")

    def __len__(self):
        raise RuntimeError("asked")

    def __iter__(self):
        raise RuntimeError("asked")

    @property
    def __class__(self):
        raise RuntimeError("asked")


def endless():
    """A list that contains itself."""
    rows = []
    rows.append(rows)
    return rows


NO_RIGHTS = ["wr", "", "R", "RW", "rw ", " r", "r\n", "--", "rr", "x", b"r", None, 0, 1, True, False, 1.5,
             (), ("r",), ["r"], {"r": 1}, {"r"}, object(), Hostile(), Hostile, endless(), (endless(),)]


class KindsTest(unittest.TestCase):
    def test_rights(self):
        for right in ("rw", "r", "w", "-"):
            self.assertIs(is_right(right), True)
        for thing in NO_RIGHTS:
            self.assertIs(is_right(thing), False)

    def test_types_by_length(self):
        for length in range(9):
            for right in RIGHTS:
                self.assertIs(is_type((right,) * length), 1 <= length <= 6)
                self.assertIs(is_value_type((right,) * length), length <= 6)
        self.assertIs(is_type(("r",) * 100000), False)
        self.assertIs(is_value_type(("r",) * 100000), False)

    def test_all_short_types(self):
        for length in range(1, 4):
            for one in value_types(length):
                self.assertIs(is_type(one), True)
                self.assertIs(is_value_type(one), True)

    def test_one_wrong_part(self):
        for thing in NO_RIGHTS:
            for parts in ((thing,), ("r", thing), (thing, "r"), ("rw", "w", thing, "-", "r", "rw")):
                self.assertIs(is_type(parts), False)
                self.assertIs(is_value_type(parts), False)

    def test_no_tuples(self):
        for thing in [[], ["r"], ["rw", "r"], "r", "rw", None, 0, 1, 3, True, False, {}, {"r": "w"}, {0: "r"},
                      set(), {"r"}, b"r", (("r",),), ((),), (("r", "w"), "r"), Hostile(), Hostile, endless(),
                      range(0), iter(())]:
            self.assertIs(is_type(thing), False)
            self.assertIs(is_value_type(thing), False)

    def test_value_type_of_numbers(self):
        self.assertIs(is_type(()), False)
        self.assertIs(is_value_type(()), True)


class WithinTest(unittest.TestCase):
    def test_all_pairs(self):
        true = {("rw", "rw"), ("r", "rw"), ("w", "rw"), ("-", "rw"), ("r", "r"), ("-", "r"),
                ("w", "w"), ("-", "w"), ("-", "-")}
        for pair in product(RIGHTS, repeat=2):
            self.assertIs(within(*pair), pair in true)


class ConvertsTest(unittest.TestCase):
    def test_numbers(self):
        self.assertIs(converts((), ()), True)

    def test_by_hand(self):
        for one, two, answer in [
                (("rw",), ("r",), True), (("r",), ("rw",), False), (("r",), ("w",), False),
                (("r",), ("-",), True), (("-",), ("r",), False),
                (("rw", "rw"), ("rw", "r"), False), (("rw", "rw"), ("r", "r"), True),
                (("rw", "r"), ("w", "rw"), True), (("rw", "rw"), ("w", "r"), False),
                (("rw", "rw", "rw"), ("rw", "rw", "r"), False), (("rw", "rw", "rw"), ("r", "rw", "r"), False),
                (("rw", "rw", "rw"), ("r", "r", "r"), True), (("r", "-"), ("-", "rw"), True),
                (("w", "w", "r"), ("w", "rw", "r"), True), (("w", "w", "-"), ("w", "rw", "r"), False)]:
            self.assertIs(converts(one, two), answer, (one, two))

    def test_all_pairs(self):
        for length in range(4):
            for one, two in product(value_types(length), repeat=2):
                self.assertIs(converts(one, two), goes(one, two), (one, two))

    def test_longer(self):
        longest = ("rw",) * 5
        for right in RIGHTS:
            self.assertIs(converts(longest + ("rw",), longest + (right,)), right == "rw")
            self.assertIs(converts(("rw",) * 6, ("r",) * 5 + (right,)), True)
            self.assertIs(converts(("r",) * 5 + (right,), ("r",) * 6), right in ("rw", "r"))
            self.assertIs(converts(("w",) * 5 + (right,), ("-",) + longest), True)
        self.assertIs(converts(("rw",) * 8, ("r",) * 8), True)
        self.assertIs(converts(("r",) * 8, ("rw",) * 8), False)

    def test_different_lengths(self):
        for one, two in [((), ("r",)), (("r",), ()), (("rw",), ("rw", "rw")), (("r", "-"), ("-",)),
                         (("rw",) * 6, ("-",) * 5), (("rw",) * 7, ("-",) * 6)]:
            self.assertIs(converts(one, two), False)
            self.assertIs(are_alike(one, two), False)

    def test_goes_on(self):
        for length in range(4):
            every = value_types(length)
            up = {one: {two for two in every if converts(one, two)} for one in every}
            for one in every:
                self.assertIn(one, up[one])
                for two in up[one]:
                    self.assertLessEqual(up[two], up[one])


class AlikeTest(unittest.TestCase):
    def test_plain(self):
        for one, form in [((), ()), (("-",), ("-",)), (("rw",), ("rw",)), (("-", "rw"), ("-", "-")),
                          (("r", "-", "rw", "w"), ("r", "-", "-", "-")), (("r", "w", "-"), ("r", "w", "-")),
                          (("w", "-", "-", "r", "-", "rw"), ("w", "-", "-", "-", "-", "-")),
                          (("r", "rw", "w"), ("r", "rw", "w"))]:
            self.assertEqual(plain(one), form)

    def test_all(self):
        for length in range(4):
            for one in value_types(length):
                self.assertEqual(plain(one), flattened(one))
                self.assertIs(are_alike(one, one), True)

    def test_alike_exactly_if_plain_forms_are_equal(self):
        for length in range(4):
            for one, two in product(value_types(length), repeat=2):
                self.assertIs(are_alike(one, two), plain(one) == plain(two))
                self.assertIs(are_alike(one, two), goes(one, two) and goes(two, one))


class BarTest(unittest.TestCase):
    def test_example(self):
        self.assertEqual(bar(("rw", "rw"), ("rw", "r")), (["w"], "w"))
        self.assertIs(is_bar(("rw", "rw"), ("rw", "r"), ["w"], "w"), True)

    def test_all_pairs(self):
        for length in range(4):
            for one, two in product(value_types(length), repeat=2):
                found = bar(one, two)
                self.assertIs(found is None, goes(one, two), (one, two))
                if found is not None:
                    self.assertIs(type(found), tuple)
                    self.assertIs(type(found[0]), list)
                    self.assertIn(found, all_bars(one, two))
                    self.assertIs(is_bar(one, two, *found), True)

    def test_check_of_all_lists(self):
        lists = [list(letters) for many in range(5) for letters in product("rw", repeat=many)]
        for length in range(3):
            for one, two in product(value_types(length), repeat=2):
                right = all_bars(one, two)
                for letters in lists:
                    for letter in "rw":
                        self.assertIs(is_bar(one, two, letters, letter), (letters, letter) in right)

    def test_empty_list(self):
        self.assertEqual(bar(("r",), ("w",)), ([], "w"))
        self.assertIs(is_bar(("r",), ("rw",), [], "w"), True)
        self.assertIs(is_bar(("r",), ("rw",), [], "r"), False)
        self.assertIs(is_bar(("rw",), ("r",), [], "w"), False)
        self.assertIs(is_bar((), (), [], "r"), False)
        self.assertIsNone(bar((), ()))

    def test_turning_about(self):
        one, two = ("rw", "rw", "r"), ("rw", "rw", "rw")
        self.assertIs(is_bar(one, two, ["r", "r"], "w"), True)
        self.assertIs(is_bar(one, two, ["w", "w"], "w"), True)
        self.assertIs(is_bar(one, two, ["w", "r"], "w"), False)
        self.assertIs(is_bar(one, two, ["r", "w"], "w"), False)
        self.assertIs(is_bar(two, one, ["w", "r"], "w"), True)
        self.assertIs(is_bar(two, one, ["r", "w"], "w"), True)
        self.assertIs(is_bar(two, one, ["r", "r"], "w"), False)

    def test_letter_must_be_in_the_right_that_it_leads_to(self):
        self.assertIs(is_bar(("rw", "r"), ("r", "w"), ["r"], "w"), True)
        self.assertIs(is_bar(("rw", "r"), ("r", "w"), ["w"], "r"), False)
        self.assertIs(is_bar(("rw", "r"), ("-", "w"), ["r"], "w"), False)
        # After the turn the letters are those of the other side's rights.
        self.assertIs(is_bar(("w", "w", "r"), ("w", "r", "w"), ["w", "w"], "w"), True)
        self.assertIs(is_bar(("w", "w", "r"), ("w", "r", "w"), ["w", "r"], "r"), False)

    def test_beyond_the_end(self):
        self.assertIs(is_bar(("r",), ("rw",), ["w"], "w"), False)
        self.assertIs(is_bar(("rw", "rw"), ("rw", "r"), ["w", "w"], "w"), False)
        self.assertIs(is_bar(("rw", "rw"), ("rw", "r"), ["w"] * 50, "w"), False)
        self.assertIs(is_bar((), (), ["r"], "r"), False)

    def test_no_letters(self):
        for thing in ("-", "", "rw", "x", "W", None, 0, True, ["w"], ()):
            self.assertIs(is_bar(("rw", "rw"), ("rw", "r"), ["w"], thing), False)
            self.assertIs(is_bar(("rw", "rw"), ("rw", "r"), [thing], "w"), False)
            self.assertIs(is_bar(("-", "-"), ("-", "-"), [], thing), False)
            self.assertIs(is_bar(("r", "r"), ("rw", "r"), [], thing), False)

    def test_unlike_lengths(self):
        self.assertIs(is_bar(("r",), ("rw", "r"), [], "w"), False)
        self.assertIs(is_bar(("r", "r"), ("w",), [], "w"), False)
        self.assertIs(is_bar((), ("w",), [], "w"), False)
        self.assertIs(is_bar(("w",), (), [], "w"), False)

    def test_longest(self):
        for one, two in [(("rw",) * 6, ("rw",) * 5 + ("r",)), (("r",) * 6, ("r",) * 5 + ("rw",)),
                         (("w",) * 5 + ("rw",), ("w",) * 5 + ("r",)), (("rw",) * 5 + ("r",), ("rw",) * 6)]:
            found = bar(one, two)
            self.assertIn(found, all_bars(one, two))
            self.assertEqual(len(found[0]), 5)
            self.assertIs(is_bar(one, two, *found), True)

    def test_told_list_belongs_to_the_caller(self):
        first = bar(("rw", "rw"), ("rw", "r"))
        first[0].append("r")
        self.assertEqual(bar(("rw", "rw"), ("rw", "r")), (["w"], "w"))

    def test_list_that_is_passed_stays(self):
        letters = ["w"]
        is_bar(("rw", "rw"), ("rw", "r"), letters, "w")
        self.assertEqual(letters, ["w"])


class LettersTest(unittest.TestCase):
    def test_within_is_of_letters(self):
        for one, two in product(RIGHTS, repeat=2):
            self.assertIs(within(one, two), letters_of(one) <= letters_of(two))
