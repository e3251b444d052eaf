"""Promise 5: two."""

import unittest

from calls import KEY, LATEST, SECRET, WIDEST, WRONG
from calls import ask, ask_last, attempt, begin, both, drop, firsts, holder, right, saved_after, told, two
from oncecodes.state import House

BAD = WRONG + WRONG
# Found by a search over the counters of SECRET: from each of these on, the same two codes of six digits.
ALIKE = (14327631813, 14327631821)


def tried(made, *tries):
    """What a new holder's calls of two answer, each of a time and two codes of six digits."""
    return firsts(begin(), made, *[two(0, now, 6, shown) for now, shown in tries])[2:]


def told_after(made, *calls):
    """next, failed, until and earned of a new holder after these calls."""
    return ask_last(begin(), made, *calls, told(0))[1:]


class Counters(unittest.TestCase):
    def test_each_counter_of_the_hundred_and_one_beyond(self):
        for ahead in (0, 1, 2, 9, 10, 50, 98, 99, 100, 101):
            good = ahead <= 99
            answers = ask(begin(), holder(first=20), two(0, 0, 6, both(20 + ahead)), told(0))[2:]
            self.assertEqual(answers[0], [1 if good else 0])
            self.assertEqual(answers[1], [0, 20 + ahead + 2, 0, 0, 1] if good else [0, 20, 1, 0, 0])

    def test_one_ahead_of_next(self):
        self.assertEqual(tried(holder(first=20), (0, both(19)), (0, both(20))), [0, 1])

    def test_the_table_of_rfc_4226_two_by_two(self):
        shown = ["755224287082", "359152969429", "338314254676", "287922162583", "399871520489"]
        self.assertEqual(tried(holder(), *[(0, each) for each in shown]), [1] * 5)

    def test_neither_of_the_two_is_good_again(self):
        used = two(0, 0, 6, both(5))
        answers = firsts(begin(), holder(), used, used, two(0, 0, 6, both(6)), attempt(0, 0, right(5)),
                         attempt(0, 0, right(6)), attempt(0, 0, right(7)))
        self.assertEqual(answers[2:], [1, 0, 0, 0, 0, 1])

    def test_the_least_of_two_counters_with_the_same_two_codes(self):
        first, other = ALIKE
        self.assertEqual(both(first), both(other))
        shown = two(0, 0, 6, both(first))
        self.assertEqual(told_after(holder(first=first), shown), [first + 2, 0, 0, 1])
        self.assertEqual(told_after(holder(first=first - 5), shown), [first + 2, 0, 0, 1])
        self.assertEqual(told_after(holder(first=first + 1), shown), [other + 2, 0, 0, 1])
        self.assertEqual(told_after(holder(first=first), shown, shown), [other + 2, 0, 0, 1])

    def test_first_at_its_end(self):
        self.assertEqual(told_after(holder(first=LATEST), two(0, LATEST, 6, both(LATEST + 99))),
                         [LATEST + 101, 0, 0, 1])

    def test_now_does_not_matter(self):
        self.assertEqual(tried(holder(), (LATEST, both(0)), (0, both(2)), (77, both(4))), [1, 1, 1])


class Codes(unittest.TestCase):
    def test_the_wrong_order(self):
        self.assertEqual(tried(holder(), (0, right(1) + right(0)), (0, both(0))), [0, 1])

    def test_the_same_code_twice(self):
        self.assertEqual(tried(holder(), (0, right(0) * 2), (0, right(1) * 2), (0, both(0))), [0, 0, 1])

    def test_codes_of_counters_apart(self):
        self.assertEqual(tried(holder(), (0, right(0) + right(2)), (0, right(0) + right(10)), (0, both(0))), [0, 0, 1])

    def test_one_right_and_one_wrong(self):
        for shown in (right(0) + WRONG.encode(), WRONG.encode() + right(1)):
            self.assertEqual(tried(holder(), (0, shown), (0, both(0))), [0, 1])

    def test_each_number_of_digits(self):
        for digits in (6, 7, 8):
            for shown in (6, 7, 8):
                answers = ask(begin(), holder(digits=digits), two(0, 0, shown, both(3, shown)), told(0))[2:]
                good = digits == shown
                self.assertEqual(answers, [[1], [0, 5, 0, 0, 1]] if good else [[0], [0, 0, 1, 0, 0]])

    def test_secrets_of_other_holders(self):
        other = [7] * 64
        answers = firsts(begin(), holder(), holder(secret=other), two(0, 0, 6, both(0, 6, other)),
                         two(1, 0, 6, both(0, 6, other)), two(0, 0, 6, both(0)))
        self.assertEqual(answers[3:], [0, 1, 1])


class Ranges(unittest.TestCase):
    def test_numbers_of_digits(self):
        for digits in (0, 1, 5, 9, 10, 50, WIDEST):
            self.assertEqual(ask_last(begin(), holder(), two(0, 0, digits, b"")), [-2])
        for digits in (5, 9):
            self.assertEqual(ask_last(begin(), holder(), two(0, 0, digits, b"1" * 2 * digits)), [-2])

    def test_as_many_bytes_as_two_codes_have(self):
        for digits in (6, 7, 8):
            for length in (0, digits, 2 * digits - 1, 2 * digits + 1):
                self.assertEqual(ask_last(begin(), holder(digits=digits), two(0, 0, digits, b"1" * length)), [-2])

    def test_digits_that_are_not_digits(self):
        for byte in (0, 0x2f, 0x3a, 0x20, 0xb0, 255):
            for k in (0, 5, 6, 11):
                shown = bytearray(both(0))
                shown[k] = byte
                self.assertEqual(tried(holder(), (0, bytes(shown)), (0, both(0))), [-2, 1])

    def test_places(self):
        calls = [begin()] + [holder()] * 64
        self.assertEqual(firsts(*calls, two(63, 0, 6, both(0)), two(64, 0, 6, both(0)), two(WIDEST, 0, 6, both(0)),
                                two(-1, 0, 6, both(0)))[-4:], [1, -2, -2, -2])

    def test_times(self):
        self.assertEqual(tried(holder(), (LATEST + 1, both(0)), (2 ** 64 - 1, both(0)), (-1, both(0)),
                               (LATEST, both(0))), [-2, -2, -2, 1])

    def test_free_places(self):
        self.assertEqual(firsts(begin(), two(0, 0, 6, both(0)), holder(), two(1, 0, 6, both(0)), drop(0),
                                two(0, 0, 6, both(0))), [0, -3, 0, -3, 0, -3])


class Locked(unittest.TestCase):
    def test_five_failures_in_a_row(self):
        answers = tried(holder(), *[(100, BAD)] * 5, (100, both(0)), (159, both(0)), (160, both(0)))
        self.assertEqual(answers, [0] * 5 + [-4, -4, 1])

    def test_four_failures_do_not_lock(self):
        self.assertEqual(told_after(holder(), *[two(0, 100, 6, BAD)] * 4), [0, 4, 0, 0])
        self.assertEqual(told_after(holder(), *[two(0, 100, 6, BAD)] * 5), [0, 5, 160, 0])

    def test_failures_are_shared_with_try(self):
        one = attempt(0, 100, WRONG)
        pair = two(0, 100, 6, BAD)
        self.assertEqual(told_after(holder(), one, pair, one, pair), [0, 4, 0, 0])
        self.assertEqual(told_after(holder(), one, pair, one, pair, pair), [0, 5, 160, 0])
        self.assertEqual(ask_last(begin(), holder(), pair, pair, pair, pair, one, two(0, 159, 6, both(0))), [-4])
        self.assertEqual(ask_last(begin(), holder(), one, one, one, one, pair, attempt(0, 159, right(0))), [-4])

    def test_a_right_pair_ends_the_row(self):
        good = two(0, 100, 6, both(0))
        self.assertEqual(told_after(holder(), *[attempt(0, 100, WRONG)] * 4, good), [2, 0, 0, 1])
        self.assertEqual(told_after(holder(), *[two(0, 100, 6, BAD)] * 4, good, two(0, 100, 6, BAD)), [2, 1, 0, 1])

    def test_a_right_code_of_try_ends_the_row_of_two(self):
        calls = [two(0, 100, 6, BAD)] * 4 + [attempt(0, 100, right(0))] + [two(0, 100, 6, BAD)] * 4
        self.assertEqual(told_after(holder(), *calls), [1, 4, 0, 1])

    def test_the_sixth_failure_locks_anew(self):
        self.assertEqual(told_after(holder(), *[two(0, 100, 6, BAD)] * 5, two(0, 160, 6, BAD)), [0, 6, 220, 0])

    def test_pairs_while_locked_count_for_nothing(self):
        calls = [two(0, 100, 6, BAD)] * 5 + [two(0, 159, 6, BAD)] * 3
        self.assertEqual(told_after(holder(), *calls), [0, 5, 160, 0])

    def test_another_number_of_digits_is_a_failure(self):
        self.assertEqual(told_after(holder(), *[two(0, 100, 7, both(0, 7))] * 5), [0, 5, 160, 0])

    def test_refused_pairs_are_no_failures(self):
        calls = [two(0, 100, 5, b""), two(0, 100, 6, b"12345678901:"), two(0, LATEST + 1, 6, BAD), two(1, 0, 6, BAD)]
        self.assertEqual(told_after(holder(), *calls), [0, 0, 0, 0])


class Timed(unittest.TestCase):
    def test_refused_whether_right_or_wrong(self):
        for step in (1, 30, 3600):
            self.assertEqual(tried(holder(step=step), (0, both(0)), (0, BAD)), [-4, -4])

    def test_refused_it_is_no_failure(self):
        calls = [begin(), holder(step=30), attempt(0, 30, WRONG)]
        self.assertEqual(saved_after(*calls, *[two(0, 30, 6, BAD)] * 5), saved_after(*calls))

    def test_wrong_arguments_come_first(self):
        answers = firsts(begin(), holder(step=30), two(0, 0, 5, b""), two(0, LATEST + 1, 6, BAD),
                         two(0, 0, 6, b"12345678901a"), two(1, 0, 6, BAD), two(0, 0, 6, BAD))
        self.assertEqual(answers[2:], [-2, -2, -2, -3, -4])


class Order(unittest.TestCase):
    """Holders that calls don't make so soon; test_saving loads such ones."""

    def setUp(self):
        self.house = House(KEY)
        self.house.add_holder(0, 6, 0, SECRET)
        self.one = self.house.holders[0]

    def test_each_refusal_ahead_of_the_next(self):
        shown = list(BAD.encode())
        self.one.counter = 2 ** 60 + 1
        self.assertEqual(self.house.try_two(0, 50, 6, shown), [-6])
        self.one.until = 51
        self.assertEqual(self.house.try_two(0, 50, 6, shown), [-4])
        self.assertEqual(self.house.try_two(0, 51, 6, shown), [-6])
        self.one.step = 30
        self.assertEqual(self.house.try_two(0, 51, 6, shown), [-4])
        self.house.drop_holder(0)
        self.assertEqual(self.house.try_two(0, 51, 6, shown), [-3])
        self.assertEqual(self.house.try_two(0, 51, 6, shown[1:]), [-2])

    def test_next_at_2_to_the_60(self):
        self.one.counter = 2 ** 60
        self.assertEqual(self.house.try_two(0, 0, 6, list(both(2 ** 60 + 99))), [1])
        self.assertEqual(self.one.counter, 2 ** 60 + 101)
        self.assertEqual(self.house.try_two(0, 0, 6, list(both(2 ** 60 + 101))), [-6])


if __name__ == "__main__":
    unittest.main()
