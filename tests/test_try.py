"""Promise 4: try."""

import unittest

from calls import KEY, LATEST, SECRET, WIDEST, WRONG
from calls import ask_last, attempt, begin, drop, firsts, holder, right
from oncecodes.state import House


def tried(made, *tries):
    """What a new holder's tries answer, each of a time and a code."""
    return firsts(begin(), made, *[attempt(0, now, shown) for now, shown in tries])[2:]


class Counted(unittest.TestCase):
    def test_the_table_of_rfc_4226_one_by_one(self):
        codes = ["755224", "287082", "359152", "969429", "338314", "254676", "287922", "162583", "399871", "520489"]
        self.assertEqual(tried(holder(), *[(0, shown) for shown in codes]), [1] * 10)

    def test_each_counter_of_the_ten_and_one_beyond(self):
        for ahead in range(12):
            self.assertEqual(tried(holder(first=20), (0, right(20 + ahead))), [1 if ahead < 10 else 0])
        self.assertEqual(tried(holder(first=20), (0, right(19))), [0])

    def test_next_is_one_more_than_the_counter(self):
        last_and_beyond = [(0, right(24)), (0, right(25)), (0, right(26))]
        self.assertEqual(tried(holder(first=20), *last_and_beyond), [1, 1, 1])
        self.assertEqual(tried(holder(first=20), (0, right(24)), (0, right(35))), [1, 0])
        self.assertEqual(tried(holder(first=20), (0, right(24)), (0, right(34))), [1, 1])

    def test_no_code_is_good_twice_nor_one_ahead_of_it(self):
        self.assertEqual(tried(holder(), (0, right(5)), (0, right(5)), (0, right(4)), (0, right(6))), [1, 0, 0, 1])

    def test_a_failure_leaves_next(self):
        self.assertEqual(tried(holder(), (0, WRONG), (0, right(10)), (0, right(9))), [0, 0, 1])

    def test_now_does_not_matter(self):
        self.assertEqual(tried(holder(), (LATEST, right(0)), (0, right(1)), (77, right(2))), [1, 1, 1])

    def test_first_at_its_end(self):
        self.assertEqual(tried(holder(first=LATEST), (0, right(LATEST - 1)), (0, right(LATEST + 9))), [0, 1])

    def test_the_least_of_two_counters_with_one_code(self):
        first, other = self.counters_alike()
        self.assertEqual(right(first), right(other))
        # Had the greater one been taken, the code between the two would be good no more.
        answers = tried(holder(first=first), (0, right(first)), (0, right(first + 1)), (0, right(other)))
        self.assertEqual(answers, [1, 1, 1])

    def counters_alike(self):
        """Two counters, two to nine apart, whose codes of six digits are the same."""
        seen = {}
        for counter in range(10 ** 6):
            shown = right(counter)
            if counter - 9 <= seen.get(shown, -99) <= counter - 2:
                return seen[shown], counter
            seen[shown] = counter
        self.fail("no two codes alike")


class Timed(unittest.TestCase):
    def test_examples_of_rfc_6238(self):
        times = [(59, "94287082"), (1111111109, "07081804"), (1111111111, "14050471"), (1234567890, "89005924"),
                 (2000000000, "69279037"), (20000000000, "65353130")]
        self.assertEqual(tried(holder(step=30, digits=8), *times), [1] * 6)

    def test_the_three_counters_and_one_beyond_on_either_side(self):
        for ahead, answer in ((-2, 0), (-1, 1), (0, 1), (1, 1), (2, 0)):
            for now in (3000, 3029):
                self.assertEqual(tried(holder(step=30), (now, right(100 + ahead))), [answer])

    def test_time_is_cut_down_to_steps(self):
        self.assertEqual(tried(holder(step=30), (2999, right(101))), [0])
        self.assertEqual(tried(holder(step=30), (3030, right(99))), [0])

    def test_time_0_has_no_counter_before_it(self):
        self.assertEqual(tried(holder(step=30), (0, right(0))), [1])
        self.assertEqual(tried(holder(step=30), (29, right(1))), [1])
        self.assertEqual(tried(holder(step=30), (0, right(2))), [0])
        house = House(KEY)
        house.add_holder(30, 6, 0, SECRET)
        self.assertEqual(house.holders[0].good_counters(0), [0, 1])

    def test_counters_below_next_are_not_good(self):
        answers = tried(holder(step=30, first=101), (3000, right(99)), (3000, right(100)), (3000, right(101)))
        self.assertEqual(answers, [0, 0, 1])
        self.assertEqual(tried(holder(step=30, first=102), (3000, right(101)), (3000, right(102))), [0, 0])

    def test_no_code_is_good_twice_nor_one_ahead_of_it(self):
        answers = tried(holder(step=30), (3000, right(100)), (3000, right(100)), (3000, right(99)), (3000, right(101)))
        self.assertEqual(answers, [1, 0, 0, 1])

    def test_time_that_goes_back(self):
        self.assertEqual(tried(holder(step=30), (3000, right(100)), (2970, right(99)), (2970, right(100))), [1, 0, 0])

    def test_least_and_greatest_step(self):
        self.assertEqual(tried(holder(step=1), (LATEST, right(LATEST + 1))), [1])
        self.assertEqual(tried(holder(step=1), (LATEST, right(LATEST + 2))), [0])
        self.assertEqual(tried(holder(step=3600), (7199, right(2)), (7199, right(3))), [1, 0])


class Digits(unittest.TestCase):
    def test_codes_of_each_number_of_digits(self):
        for digits in (6, 7, 8):
            for shown in (6, 7, 8):
                answer = tried(holder(digits=digits), (0, right(0, shown)))
                self.assertEqual(answer, [1 if shown == digits else 0])

    def test_another_number_of_digits_is_a_failure(self):
        answers = tried(holder(), *[(0, right(0, 7))] * 5, (0, right(0)))
        self.assertEqual(answers, [0] * 5 + [-4])

    def test_other_lengths(self):
        for length in (0, 1, 5, 9, 16, 100):
            self.assertEqual(tried(holder(), (0, b"1" * length)), [-2])

    def test_digits_that_are_not_digits(self):
        for byte in (0, 0x2f, 0x3a, 0x20, 0xb0, 255):
            for k in range(6):
                shown = bytearray(right(0))
                shown[k] = byte
                self.assertEqual(tried(holder(), (0, bytes(shown)), (0, right(0))), [-2, 1])


class Locked(unittest.TestCase):
    def test_five_failures_in_a_row(self):
        answers = tried(holder(), *[(100, WRONG)] * 5, (100, right(0)), (159, right(0)), (160, right(0)))
        self.assertEqual(answers, [0] * 5 + [-4, -4, 1])

    def test_four_failures_do_not_lock(self):
        self.assertEqual(tried(holder(), *[(100, WRONG)] * 4, (100, right(0))), [0] * 4 + [1])

    def test_a_good_code_ends_the_row(self):
        answers = tried(holder(), *[(100, WRONG)] * 4, (100, right(0)), *[(100, WRONG)] * 4, (100, right(1)))
        self.assertEqual(answers, [0] * 4 + [1] + [0] * 4 + [1])

    def test_the_sixth_failure_locks_anew(self):
        answers = tried(holder(), *[(100, WRONG)] * 5, (160, WRONG), (219, right(0)), (220, right(0)))
        self.assertEqual(answers, [0] * 5 + [0, -4, 1])

    def test_tries_while_locked_count_for_nothing(self):
        answers = tried(holder(), *[(100, WRONG)] * 5, *[(159, WRONG)] * 3, (160, right(0)))
        self.assertEqual(answers, [0] * 5 + [-4] * 3 + [1])

    def test_until_stays_when_a_code_is_good(self):
        answers = tried(holder(), *[(100, WRONG)] * 5, (160, right(0)), (159, right(1)), (160, right(1)))
        self.assertEqual(answers, [0] * 5 + [1, -4, 1])

    def test_one_failure_after_a_good_code_does_not_lock(self):
        answers = tried(holder(), *[(100, WRONG)] * 5, (160, right(0)), (160, WRONG), (160, right(1)))
        self.assertEqual(answers, [0] * 5 + [1, 0, 1])

    def test_locked_at_the_last_time(self):
        self.assertEqual(tried(holder(), *[(LATEST, WRONG)] * 5, (LATEST, right(0))), [0] * 5 + [-4])

    def test_each_holder_for_itself(self):
        calls = [begin(), holder(), holder()] + [attempt(0, 9, WRONG)] * 5
        answers = firsts(*calls, attempt(1, 9, right(0)), attempt(0, 9, right(0)))
        self.assertEqual(answers[-2:], [1, -4])

    def test_failures_stop_at_their_last_number(self):
        house = House(KEY)
        house.add_holder(0, 6, 0, SECRET)
        house.holders[0].failed = 2 ** 31 - 2
        self.assertEqual(house.try_code(0, 7, list(WRONG.encode())), [0])
        self.assertEqual((house.holders[0].failed, house.holders[0].until), (2 ** 31 - 1, 67))
        self.assertEqual(house.try_code(0, 67, list(WRONG.encode())), [0])
        self.assertEqual((house.holders[0].failed, house.holders[0].until), (2 ** 31 - 1, 127))


class Changes(unittest.TestCase):
    def setUp(self):
        self.house = House(KEY)
        self.house.add_holder(0, 6, 3, SECRET)
        self.one = self.house.holders[0]

    def state(self):
        return (self.one.counter, self.one.failed, self.one.until, self.one.earned)

    def test_a_good_code(self):
        self.one.failed = 4
        self.assertEqual(self.house.try_code(0, 50, list(right(5))), [1])
        self.assertEqual(self.state(), (6, 0, 0, 1))

    def test_a_wrong_code(self):
        self.assertEqual(self.house.try_code(0, 50, list(WRONG.encode())), [0])
        self.assertEqual(self.state(), (3, 1, 0, 0))

    def test_a_wrong_code_leaves_what_was_earned(self):
        self.house.try_code(0, 50, list(right(3)))
        for k in range(5):
            self.house.try_code(0, 50, list(WRONG.encode()))
        self.assertEqual(self.state(), (4, 5, 110, 1))

    def test_refusals_change_nothing(self):
        self.one.until = 51
        for place, now, shown in ((0, 50, right(3)), (0, LATEST + 1, right(3)), (0, 60, b"12345"), (1, 60, right(3))):
            self.assertLess(self.house.try_code(place, now, list(shown))[0], 0)
        self.assertEqual(self.state(), (3, 0, 51, 0))

    def test_next_at_2_to_the_60_and_above(self):
        self.one.counter = 2 ** 60
        self.assertEqual(self.house.try_code(0, 50, list(right(2 ** 60 + 9))), [1])
        self.assertEqual(self.one.counter, 2 ** 60 + 10)
        self.assertEqual(self.house.try_code(0, 50, list(right(2 ** 60 + 10))), [-6])
        self.one.counter = 2 ** 60 + 1
        self.assertEqual(self.house.try_code(0, 50, list(WRONG.encode())), [-6])
        self.assertEqual(self.state(), (2 ** 60 + 1, 0, 0, 1))

    def test_order_of_refusals(self):
        shown = list(right(3))
        self.one.counter = 2 ** 60 + 1
        self.assertEqual(self.house.try_code(0, 50, shown), [-6])
        self.one.until = 51
        self.assertEqual(self.house.try_code(0, 50, shown), [-4])
        self.assertEqual(self.house.try_code(0, 50, shown[1:]), [-2])
        self.house.drop_holder(0)
        self.assertEqual(self.house.try_code(0, 50, shown), [-3])
        self.assertEqual(self.house.try_code(0, 50, shown[1:]), [-2])


class Ranges(unittest.TestCase):
    def test_places(self):
        calls = [begin()] + [holder()] * 64
        self.assertEqual(firsts(*calls, attempt(63, 0, right(0)), attempt(64, 0, right(0)),
                                attempt(WIDEST, 0, right(0)), attempt(-1, 0, right(0)))[-4:], [1, -2, -2, -2])

    def test_free_places(self):
        self.assertEqual(firsts(begin(), attempt(0, 0, right(0)), holder(), attempt(1, 0, right(0)), drop(0),
                                attempt(0, 0, right(0))), [0, -3, 0, -3, 0, -3])

    def test_times(self):
        self.assertEqual(tried(holder(), (LATEST + 1, right(0)), (2 ** 64 - 1, right(0)), (-1, right(0)),
                               (LATEST, right(0))), [-2, -2, -2, 1])

    def test_wrong_arguments_come_ahead_of_no_holder(self):
        for now, shown in ((LATEST + 1, right(0)), (0, b"12345"), (0, b"12345a")):
            self.assertEqual(ask_last(begin(), attempt(5, now, shown)), [-2])

    def test_wrong_arguments_come_ahead_of_the_lock(self):
        answers = tried(holder(), *[(100, WRONG)] * 5, (100, b"12345"), (100, b"12345:"), (100, WRONG))
        self.assertEqual(answers[-3:], [-2, -2, -4])


if __name__ == "__main__":
    unittest.main()
