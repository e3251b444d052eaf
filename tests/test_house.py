"""Promises 2 and 3: begin, holder, drop."""

import unittest

from calls import KEY, KEY24, KEY32, LATEST, SECRET, WIDEST
from calls import ask, ask_last, attempt, begin, drop, firsts, holder
from oncecodes.state import House


class Begin(unittest.TestCase):
    def test_each_length_of_a_key(self):
        for key in (KEY, KEY24, KEY32):
            self.assertEqual(ask(begin(key), holder()), [[0], [0]])

    def test_other_lengths(self):
        for length in (0, 1, 15, 17, 23, 25, 31, 33, 64, 100):
            self.assertEqual(ask_last(begin([9] * length)), [-2])
        self.assertEqual(ask_last(begin([256] * 16)), [-2])

    def test_refused_with_no_house_there_is_none_still(self):
        self.assertEqual(ask(begin([9] * 15), holder(), drop(0), attempt(0, 0, "755224")), [[-2]] * 4)

    def test_refused_with_a_house_it_is_as_it_was(self):
        answers = firsts(begin(), holder(), holder(), attempt(0, 0, "755224"), begin([9] * 17),
                         attempt(0, 0, "755224"), attempt(0, 0, "287082"), holder())
        self.assertEqual(answers, [0, 0, 1, 1, -2, 0, 1, 2])

    def test_a_second_begin_is_a_new_house(self):
        answers = firsts(begin(), holder(), holder(), begin(KEY32), drop(0), attempt(1, 0, "755224"), holder())
        self.assertEqual(answers, [0, 0, 1, 0, -3, -3, 0])

    def test_what_a_new_house_has(self):
        house = House(KEY)
        self.assertEqual((house.key, house.number, house.taken), (KEY, 1, []))
        self.assertEqual(house.holders, [None] * 64)


class BeforeBegin(unittest.TestCase):
    def test_all_calls_are_refused(self):
        self.assertEqual(ask(holder(), drop(0), attempt(0, 0, "755224")), [[-2]] * 3)

    def test_refused_calls_leave_nothing_behind(self):
        self.assertEqual(firsts(holder(), begin(), drop(0), holder()), [-2, 0, -3, 0])


class Holders(unittest.TestCase):
    def test_least_free_places(self):
        calls = [begin()] + [holder()] * 5 + [drop(3), drop(1), holder(), holder(), holder()]
        self.assertEqual(firsts(*calls), [0, 0, 1, 2, 3, 4, 0, 0, 1, 3, 5])

    def test_full_house(self):
        calls = [begin()] + [holder()] * 64 + [holder(), drop(63), holder(), holder(), drop(0), holder(), holder()]
        self.assertEqual(firsts(*calls), [0] + list(range(64)) + [-6, 0, 63, -6, 0, 0, -6])

    def test_wrong_arguments_come_ahead_of_a_full_house(self):
        calls = [begin()] + [holder()] * 64 + [holder(step=3601), holder(secret=[1] * 15), holder()]
        self.assertEqual(firsts(*calls)[-3:], [-2, -2, -6])

    def test_secrets(self):
        for length, answer in ((0, -2), (15, -2), (16, 0), (64, 0), (65, -2), (100, -2)):
            self.assertEqual(ask_last(begin(), holder(secret=[1] * length)), [answer])
        self.assertEqual(ask_last(begin(), holder(secret=[256] * 16)), [-2])

    def test_steps(self):
        for step, answer in ((-1, -2), (0, 0), (1, 0), (3600, 0), (3601, -2), (WIDEST, -2)):
            self.assertEqual(ask_last(begin(), holder(step=step)), [answer])

    def test_digits(self):
        for digits, answer in ((0, -2), (5, -2), (6, 0), (7, 0), (8, 0), (9, -2), (WIDEST, -2)):
            self.assertEqual(ask_last(begin(), holder(digits=digits)), [answer])

    def test_firsts(self):
        for first, answer in ((-1, -2), (0, 0), (LATEST, 0), (LATEST + 1, -2), (2 ** 64 - 1, -2)):
            self.assertEqual(ask_last(begin(), holder(first=first)), [answer])

    def test_refused_holder_takes_no_place(self):
        self.assertEqual(firsts(begin(), holder(digits=9), holder()), [0, -2, 0])

    def test_what_a_new_holder_has(self):
        house = House(KEY)
        house.number = 8
        self.assertEqual(house.add_holder(30, 7, 5, SECRET), [0])
        new = house.holders[0]
        self.assertEqual((new.secret, new.step, new.digits, new.counter), (SECRET, 30, 7, 5))
        self.assertEqual((new.failed, new.until, new.earned, new.floor), (0, 0, 0, 7))


class Drop(unittest.TestCase):
    def test_free_places(self):
        self.assertEqual(firsts(begin(), drop(0), drop(63), holder(), drop(1), drop(0), drop(0)),
                         [0, -3, -3, 0, -3, 0, -3])

    def test_places_that_there_are_not(self):
        self.assertEqual(firsts(begin(), drop(63), drop(64), drop(WIDEST), drop(-1)), [0, -3, -2, -2, -2])

    def test_a_holder_in_a_place_given_again_is_new(self):
        locked = [attempt(0, 100, "000000")] * 5
        answers = firsts(begin(), holder(), attempt(0, 100, "755224"), *locked, attempt(0, 100, "287082"),
                         drop(0), holder(), attempt(0, 100, "755224"))
        self.assertEqual(answers, [0, 0, 1, 0, 0, 0, 0, 0, -4, 0, 0, 1])


if __name__ == "__main__":
    unittest.main()
