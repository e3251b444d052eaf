"""Promise 9: save, load."""

import unittest

from calls import KEY, KEY24, KEY32, LAST_END, LATEST, SECRET, WIDEST, WRONG
from calls import ask, ask_last, attempt, begin, both, drop, firsts, give, holder, load, loading, low, plain_holder
from calls import plain_house, plain_ticket, right, save, saved_after, show, sweep, take, told, two, unwrapped, void
from calls import wrapped

LONG = [(5 * k + 3) % 256 for k in range(64)]
SHORT = [255] * 16
LIST = 16 + 64 * 128
NO_KEYS = [[], [7] * 15, [7] * 17, [7] * 23, [7] * 25, [7] * 31, [7] * 33, [7] * 64, [7] * 100, [256] * 16]


def ticket(number, place, beginning, end, key=KEY):
    return wrapped(key, plain_ticket(number, place, 0, beginning, end))


def busy():
    """Calls of a house with counted and timed holders, free places between them, and tickets taken back."""
    calls = [begin(), holder(0, 6, 7, SHORT), holder(), holder(30, 8, 9, LONG), holder(3600, 7, LATEST), holder()]
    calls += [attempt(0, 50, right(16, 6, SHORT)), give(0, 50, 60)]
    calls += [attempt(2, 300, right(11, 8, LONG)), give(2, 300, 1048576)]
    calls += [attempt(2, 330, right(12, 8, LONG))] + [attempt(3, 400, WRONG)] * 6
    calls += [take(ticket(2, 2, 300, 1048876)), take(ticket(1, 0, 50, 110)), void(2), drop(1)]
    return calls


def busy_bytes():
    """What is saved of it."""
    holders = [plain_holder(0, 6, 17, 0, 0, 0, 0, SHORT), [0] * 128, plain_holder(30, 8, 13, 0, 1, 0, 2, LONG),
               plain_holder(3600, 7, LATEST, 5, 0, 460), plain_holder()]
    return plain_house(3, holders, [(2, 1048876), (1, 110)])


class Saved(unittest.TestCase):
    def test_how_many_bytes(self):
        answer = ask_last(begin(), save())
        self.assertEqual((answer[0], len(answer)), (12312, 12313))
        self.assertTrue(all(0 <= byte <= 255 for byte in answer[1:]))

    def test_an_empty_house(self):
        plain = saved_after(begin())
        self.assertEqual(len(plain), 12304)
        self.assertEqual(plain[:8], [0x53, 0x59, 0x32, 0x33, 0, 0, 0, 0])
        self.assertEqual(plain[8:16], [1, 0, 0, 0, 0, 0, 0, 0])
        self.assertEqual(plain[16:], [0] * 12288)

    def test_each_field_of_a_busy_house(self):
        plain = saved_after(*busy())
        self.assertEqual(plain[8:16], low(3, 8))
        first = plain[16:144]
        self.assertEqual(first[:4], [1, 0, 6, 16])
        self.assertEqual((first[4:8], first[8:16], first[16:20]), (low(0, 4), low(17, 8), low(0, 4)))
        self.assertEqual((first[20:24], first[24:32], first[32:40]), (low(0, 4), low(0, 8), low(0, 8)))
        self.assertEqual((first[40:56], first[56:]), (SHORT, [0] * 72))
        self.assertEqual(plain[144:272], [0] * 128)
        third = plain[272:400]
        self.assertEqual(third[:4], [1, 1, 8, 64])
        self.assertEqual((third[4:8], third[8:16], third[16:20]), (low(30, 4), low(13, 8), low(0, 4)))
        self.assertEqual((third[20:24], third[24:32], third[32:40]), (low(1, 4), low(0, 8), low(2, 8)))
        self.assertEqual((third[40:104], third[104:]), (LONG, [0] * 24))
        fourth = plain[400:528]
        self.assertEqual(fourth[:4], [1, 1, 7, 20])
        self.assertEqual((fourth[4:8], fourth[8:16], fourth[16:20]), (low(3600, 4), low(LATEST, 8), low(5, 4)))
        self.assertEqual((fourth[20:24], fourth[24:32], fourth[32:40]), (low(0, 4), low(460, 8), low(0, 8)))
        self.assertEqual(plain[LIST:LIST + 32], low(2, 8) + low(1048876, 8) + low(1, 8) + low(110, 8))
        self.assertEqual(plain[LIST + 32:], [0] * (4096 - 32))
        self.assertEqual(plain, busy_bytes())

    def test_a_full_house(self):
        secrets = [[place] * (16 + place % 49) for place in range(64)]
        calls = [begin()] + [holder(place, 6 + place % 3, 1000 * place, secrets[place]) for place in range(64)]
        holders = [plain_holder(place, 6 + place % 3, 1000 * place, secret=secrets[place]) for place in range(64)]
        self.assertEqual(saved_after(*calls), plain_house(1, holders))

    def test_a_floor_of_tickets_before_it(self):
        calls = [begin(), holder(), attempt(0, 0, right(0)), give(0), holder(), drop(0), holder()]
        self.assertEqual(saved_after(*calls), plain_house(2, [plain_holder(floor=1)] * 2))

    def test_the_bytes_are_what_wrap_makes(self):
        plain = plain_house(1, [plain_holder()])
        for key in (KEY, KEY24, KEY32):
            self.assertEqual(ask_last(begin(), holder(), save(key)), [12312] + wrapped(key, plain))

    def test_the_house_s_key_is_not_in_it(self):
        self.assertEqual(saved_after(begin(KEY), holder()), saved_after(begin(KEY24), holder()))

    def test_the_house_stays_as_it_was(self):
        calls = busy()
        self.assertEqual(saved_after(*calls, save(KEY)), busy_bytes())

    def test_lengths_of_keys(self):
        for key in NO_KEYS:
            self.assertEqual(ask_last(begin(), save(key)), [-2])
        self.assertEqual(firsts(begin(), save(KEY), save(KEY24), save(KEY32)), [0, 12312, 12312, 12312])


class Loaded(unittest.TestCase):
    def test_the_same_house_again(self):
        for under in (KEY, KEY24, KEY32):
            saved = ask_last(*busy(), save(under))[1:]
            self.assertEqual(firsts(load(KEY, under, saved)), [0])
            self.assertEqual(saved_after(load(KEY, under, saved)), busy_bytes())

    def test_the_calls_behind_it(self):
        saved = ask_last(*busy(), save(KEY))[1:]
        calls = [told(0), told(1), told(2), told(3), attempt(3, 459, WRONG), attempt(3, 460, WRONG), told(3),
                 attempt(0, 500, right(16, 6, SHORT)), attempt(0, 500, right(17, 6, SHORT)), give(2, 500, 5, 6),
                 show(60, ticket(1, 0, 50, 110)), sweep(110), show(60, ticket(1, 0, 50, 110)),
                 show(400, ticket(2, 2, 300, 1048876)), holder(), holder(), two(4, 500, 6, both(44)), give(4), drop(2),
                 sweep(LATEST)]
        before = ask(*busy(), *calls)[len(busy()):]
        self.assertEqual(ask(load(KEY, KEY, saved), *calls)[1:], before)
        self.assertEqual([answer[0] for answer in before],
                         [0, -3, 0, 0, -4, 0, 0, 0, 1, 40, -4, 1, 0, -5, 1, 5, 1, 40, 0, 0])

    def test_the_house_s_key_is_the_one_told(self):
        saved = ask_last(begin(KEY), holder(), attempt(0, 0, right(0)), give(0), save(KEY24))[1:]
        old = ticket(1, 0, 0, 100, KEY)
        new = ticket(1, 0, 0, 100, KEY32)
        under = ticket(1, 0, 0, 100, KEY24)
        self.assertEqual(firsts(load(KEY, KEY24, saved), show(5, old), show(5, new), show(5, under)), [0, 0, -5, -5])
        answers = ask(begin(KEY), load(KEY32, KEY24, saved), show(5, old), show(5, new), show(5, under),
                      attempt(0, 0, right(1)), give(0, 1, 2, 3))
        self.assertEqual([answer[0] for answer in answers], [0, 0, -5, 0, -5, 1, 40])
        self.assertEqual(answers[-1][1:], wrapped(KEY32, plain_ticket(2, 0, 3, 1, 3)))

    def test_in_the_place_of_the_house_before(self):
        other = loading(plain_house(9, [plain_holder(), plain_holder()], [(3, 7)]))
        self.assertEqual(saved_after(*busy(), other), plain_house(9, [plain_holder(), plain_holder()], [(3, 7)]))

    def test_begin_after_load(self):
        self.assertEqual(saved_after(loading(busy_bytes()), begin()), plain_house())

    def test_loaded_holders_are_apart(self):
        plain = plain_house(1, [plain_holder(), plain_holder()])
        self.assertEqual(ask(loading(plain), attempt(0, 0, right(0)), told(0), told(1))[2:],
                         [[0, 1, 0, 0, 1], [0, 0, 0, 0, 0]])

    def test_every_length_of_a_secret(self):
        plain = plain_house(1, [plain_holder(secret=LONG[:length]) for length in range(16, 65)])
        calls = [attempt(length - 16, 0, right(0, 6, LONG[:length])) for length in range(16, 65)]
        self.assertEqual(firsts(loading(plain), *calls), [0] + [1] * 49)

    def test_a_full_house_and_a_full_list(self):
        taken = [(number, LAST_END - number) for number in range(1000, 1256)]
        plain = plain_house(1256, [plain_holder(floor=place) for place in range(64)], taken)
        self.assertEqual(saved_after(loading(plain)), plain)
        self.assertEqual(firsts(loading(plain), holder(), sweep(LATEST)), [0, -6, 256])


class Refused(unittest.TestCase):
    def test_lengths_of_keys(self):
        saved = wrapped(KEY, plain_house())
        for key in NO_KEYS:
            self.assertEqual(firsts(load(key, KEY, saved), load(KEY, key, saved), load(key, key, saved)), [-2] * 3)

    def test_wrong_keys_come_ahead_of_what_is_not_genuine(self):
        self.assertEqual(firsts(load(KEY[1:], KEY, [0] * 12312), load(KEY, KEY[1:], [0] * 12312)), [-2, -2])
        self.assertEqual(firsts(load(KEY, KEY, [0] * 12312)), [-5])

    def test_lengths_of_what_is_saved(self):
        saved = wrapped(KEY, plain_house())
        for row in ([], saved[8:], saved + [0] * 8, saved[1:], saved[1:] + [256]):
            self.assertEqual(firsts(load(KEY, KEY, row)), [-2])

    def test_a_changed_byte(self):
        saved = wrapped(KEY, plain_house())
        for k in (0, 7, 8, 6000, 12311):
            changed = list(saved)
            changed[k] ^= 1
            self.assertEqual(firsts(load(KEY, KEY, changed)), [-5])

    def test_another_key(self):
        saved = wrapped(KEY, plain_house())
        self.assertEqual(firsts(load(KEY, KEY24, saved)), [-5])
        self.assertEqual(firsts(load(KEY, [1] + KEY[1:], saved)), [-5])

    def test_the_house_is_as_it_was(self):
        bad = loading(plain_house(0))
        self.assertEqual(saved_after(*busy(), bad), busy_bytes())
        answers = firsts(begin(), holder(), attempt(0, 0, right(0)), give(0), loading(plain_house(), KEY32)[:-1] + [0],
                         show(5, ticket(1, 0, 0, 100)))
        self.assertEqual(answers[-2:], [-5, 0])
        self.assertEqual(saved_after(begin(), holder(), load(KEY[1:], KEY, [0] * 12312)),
                         plain_house(1, [plain_holder()]))

    def test_there_is_no_house_where_there_was_none(self):
        calls = [holder(), drop(0), attempt(0, 0, right(0)), two(0, 0, 6, both(0)), told(0), give(0),
                 show(0, [0] * 40), take([0] * 40), void(0), sweep(0), save()]
        self.assertEqual(firsts(*calls), [-2] * 11)
        self.assertEqual(firsts(loading(plain_house(0)), *calls), [-5] + [-2] * 11)
        self.assertEqual(firsts(loading(plain_house(), key=[1] * 15), *calls), [-2] * 12)


class Ranges(unittest.TestCase):
    """Bytes that unwrap, but that no house is saved as."""

    def assert_loaded(self, plain):
        saved = wrapped(KEY32, plain)
        self.assertEqual(ask(load(KEY, KEY32, saved), save(KEY32)), [[0], [12312] + saved])

    def assert_refused(self, plain):
        self.assertEqual(firsts(loading(plain)), [-5])

    def assert_holder(self, good, **fields):
        plain = plain_house(5, [[0] * 128, plain_holder(**fields)])
        if good:
            self.assert_loaded(plain)
        else:
            self.assert_refused(plain)

    def changed(self, k, value, plain=None):
        """A house's bytes with the one at k changed."""
        plain = list(plain or plain_house(5, [plain_holder(), plain_holder(step=30)], [(1, 100), (4, 200)]))
        self.assertNotEqual(plain[k], value)
        plain[k] = value
        return plain

    def test_the_first_eight_bytes(self):
        for k, value in enumerate([0x52, 0x58, 0x33, 0x32, 1, 1, 1, 255]):
            self.assert_refused(self.changed(k, value))

    def test_the_next_ticket_s_number(self):
        self.assert_refused(plain_house(0))
        self.assert_loaded(plain_house(1))
        self.assert_loaded(plain_house(2 ** 60 + 1))
        self.assert_refused(plain_house(2 ** 60 + 2))
        self.assert_refused(plain_house(2 ** 64 - 1))

    def test_a_holder_s_first_byte(self):
        for value in (2, 255):
            self.assert_refused(self.changed(16, value))
        self.assert_refused(self.changed(16, 0))

    def test_a_free_place_s_bytes(self):
        for k in (1, 2, 3, 4, 8, 16, 20, 24, 32, 40, 103, 104, 127):
            self.assert_refused(self.changed(16 + 128 * 2 + k, 1))
        self.assert_refused(self.changed(LIST - 1, 1))

    def test_the_timed_byte(self):
        self.assert_refused(self.changed(17, 1))
        self.assert_refused(self.changed(17 + 128, 0))
        self.assert_refused(self.changed(17 + 128, 2))
        self.assert_refused(self.changed(17 + 128, 255))

    def test_digits(self):
        for digits, good in ((0, False), (5, False), (6, True), (8, True), (9, False), (255, False)):
            self.assert_holder(good, digits=digits)

    def test_lengths_of_secrets(self):
        self.assert_holder(True, secret=SHORT)
        self.assert_holder(True, secret=LONG)
        self.assert_holder(False, secret=SHORT[1:])
        self.assert_holder(False, secret=[])
        for length in (65, 66, 88, 89, 255):
            self.assert_refused(self.changed(19, length, plain_house(1, [plain_holder(secret=LONG)])))
        # 64 bytes and one more, as if the 0s behind them were not told apart.
        longer = self.changed(19, 65, plain_house(1, [plain_holder(secret=LONG)]))
        longer[16 + 104] = 9
        self.assert_refused(longer)

    def test_a_secret_s_length_and_its_bytes(self):
        plain = plain_house(1, [plain_holder(secret=SECRET)])
        self.assert_loaded(self.changed(19, 21, plain))
        self.assert_refused(self.changed(19, 19, plain))

    def test_a_secret_of_0s(self):
        self.assert_holder(True, secret=[0] * 16)
        self.assert_holder(True, secret=[0] * 64)

    def test_steps(self):
        for step, good in ((0, True), (1, True), (3600, True), (3601, False), (65536, False), (WIDEST, False)):
            self.assert_holder(good, step=step)

    def test_next(self):
        for step in (0, 30):
            for counter, good in ((2 ** 60 + 101, True), (2 ** 60 + 102, False), (2 ** 64 - 1, False)):
                self.assert_holder(good, step=step, counter=counter)

    def test_failed(self):
        for failed, good in ((2 ** 31 - 1, True), (2 ** 31, False), (WIDEST, False)):
            self.assert_holder(good, failed=failed)

    def test_earned(self):
        for earned, good in ((0, True), (1, True), (2, False), (256, False), (WIDEST, False)):
            self.assert_holder(good, earned=earned)

    def test_until(self):
        for until, good in ((LATEST + 60, True), (LATEST + 61, False), (2 ** 64 - 1, False)):
            self.assert_holder(good, until=until)

    def test_floor(self):
        for floor, good in ((0, True), (4, True), (5, False), (6, False), (2 ** 64 - 1, False)):
            self.assert_holder(good, floor=floor)
        self.assert_loaded(plain_house(2 ** 60 + 1, [plain_holder(floor=2 ** 60)]))
        self.assert_refused(plain_house(1, [plain_holder(floor=1)]))

    def test_bytes_behind_the_secret(self):
        for k in (60, 61, 103):
            self.assert_refused(self.changed(16 + k, 1))

    def test_the_last_24_bytes(self):
        for k in (104, 115, 127):
            self.assert_refused(self.changed(16 + k, 1))
        self.assert_refused(self.changed(16 + 104, 1, plain_house(1, [plain_holder(secret=LONG)])))

    def test_each_of_64_holders_is_looked_at(self):
        for place in (0, 31, 63):
            holders = [plain_holder() for k in range(64)]
            holders[place] = plain_holder(until=LATEST + 61)
            self.assert_refused(plain_house(1, holders))

    def test_the_list_s_numbers(self):
        self.assert_loaded(plain_house(5, [], [(4, 0), (1, 0), (3, 0)]))
        for taken in ([(5, 9)], [(1, 9), (6, 9)], [(2 ** 64 - 1, 9)]):
            self.assert_refused(plain_house(5, [], taken))
        self.assert_loaded(plain_house(2 ** 60 + 1, [], [(2 ** 60, 9)]))
        self.assert_refused(plain_house(1, [], [(1, 9)]))

    def test_two_alike(self):
        for taken in ([(2, 9), (2, 9)], [(2, 9), (2, 8)], [(1, 9), (2, 9), (3, 9), (1, 9)]):
            self.assert_refused(plain_house(5, [], taken))
        full = [(number, 9) for number in range(1, 257)]
        self.assert_loaded(plain_house(257, [], full))
        self.assert_refused(plain_house(257, [], full[:255] + [(1, 9)]))

    def test_ends(self):
        for end, good in ((0, True), (LAST_END, True), (LAST_END + 1, False), (2 ** 64 - 1, False)):
            for taken in ([(1, end)], [(2, 5), (1, end)]):
                if good:
                    self.assert_loaded(plain_house(5, [], taken))
                else:
                    self.assert_refused(plain_house(5, [], taken))

    def test_behind_a_free_place(self):
        for taken in ([(0, 0), (1, 9)], [(0, 0), (0, 9)], [(1, 9), (0, 0), (2, 9)], [(1, 9), (0, 0), (2, 0)]):
            self.assert_refused(plain_house(5, [], taken))
        self.assert_refused(self.changed(12303, 1))
        self.assert_refused(self.changed(12288, 1))

    def test_an_end_with_the_number_0(self):
        for taken in ([(0, 9)], [(1, 9), (0, 1)], [(1, 9), (0, 9), (2, 9)]):
            self.assert_refused(plain_house(5, [], taken))


class AtTheirLast(unittest.TestCase):
    """What calls answer of holders that only load brings so far."""

    def test_next_above_2_to_the_60(self):
        for counter in (2 ** 60 + 1, 2 ** 60 + 101):
            plain = plain_house(1, [plain_holder(counter=counter), plain_holder(step=30, counter=counter)])
            calls = [attempt(0, 0, right(counter)), attempt(0, 0, WRONG), two(0, 0, 6, both(counter)),
                     attempt(1, 0, WRONG), two(1, 0, 6, both(counter)), attempt(2, 0, WRONG)]
            self.assertEqual(firsts(loading(plain), *calls), [0, -6, -6, -6, -6, -4, -3])
            self.assertEqual(saved_after(loading(plain), *calls), plain)

    def test_next_at_2_to_the_60(self):
        plain = plain_house(1, [plain_holder(counter=2 ** 60)] * 4)
        calls = [attempt(0, 0, right(2 ** 60 + 9)), told(0), two(1, 0, 6, both(2 ** 60 + 99)), told(1),
                 two(1, 0, 6, both(2 ** 60 + 101)), two(2, 0, 6, both(2 ** 60 + 100)), told(2), two(0, 0, 6, WRONG * 2)]
        self.assertEqual(ask(loading(plain), *calls)[1:],
                         [[1], [0, 2 ** 60 + 10, 0, 0, 1], [1], [0, 2 ** 60 + 101, 0, 0, 1], [-6], [0],
                          [0, 2 ** 60, 1, 0, 0], [-6]])
        again = plain_house(1, [plain_holder(counter=2 ** 60 + 10, earned=1),
                                plain_holder(counter=2 ** 60 + 101, earned=1),
                                plain_holder(counter=2 ** 60, failed=1), plain_holder(counter=2 ** 60)])
        self.assertEqual(saved_after(loading(plain), *calls), again)
        self.assertEqual(firsts(loading(again)), [0])

    def test_the_lock_comes_ahead_of_the_last_counter(self):
        plain = plain_house(1, [plain_holder(counter=2 ** 60 + 1, until=100), plain_holder(step=30, until=100)])
        calls = [attempt(0, 99, WRONG), attempt(0, 100, WRONG), two(0, 99, 6, WRONG * 2), two(0, 100, 6, WRONG * 2),
                 two(1, 100, 6, WRONG * 2), two(0, 99, 6, "12345678901a")]
        self.assertEqual(firsts(loading(plain), *calls), [0, -4, -6, -4, -6, -4, -2])

    def test_a_timed_holder_whose_next_is_far_ahead(self):
        plain = plain_house(1, [plain_holder(step=1, counter=2 ** 60)])
        self.assertEqual(ask(loading(plain), attempt(0, LATEST, right(LATEST)), told(0)),
                         [[0], [0], [0, 2 ** 60, 1, 0, 0]])

    def test_failed_stays_at_its_last_number(self):
        plain = plain_house(1, [plain_holder(failed=2 ** 31 - 1), plain_holder(failed=2 ** 31 - 2)])
        calls = [attempt(0, 7, WRONG), told(0), two(0, 67, 6, WRONG * 2), told(0), attempt(1, 7, WRONG), told(1),
                 attempt(1, 67, WRONG), told(1), attempt(1, 127, right(0)), told(1)]
        answers = ask(loading(plain), *calls)
        self.assertEqual([answer[1:] for answer in answers if len(answer) > 1],
                         [[0, 2 ** 31 - 1, 67, 0], [0, 2 ** 31 - 1, 127, 0], [0, 2 ** 31 - 1, 67, 0],
                          [0, 2 ** 31 - 1, 127, 0], [1, 0, 127, 1]])

    def test_locked_beyond_the_last_time(self):
        plain = plain_house(1, [plain_holder(until=LATEST + 60), plain_holder(until=LATEST)])
        self.assertEqual(firsts(loading(plain), attempt(0, LATEST, right(0)), two(0, LATEST, 6, both(0)),
                                attempt(1, LATEST, right(0))), [0, -4, -4, 1])

    def test_until_at_its_last(self):
        calls = [begin(), holder()] + [attempt(0, LATEST, WRONG)] * 5
        plain = saved_after(*calls)
        self.assertEqual(plain, plain_house(1, [plain_holder(failed=5, until=LATEST + 60)]))
        self.assertEqual(firsts(loading(plain)), [0])

    def test_give_with_no_number_left(self):
        plain = plain_house(2 ** 60 + 1, [plain_holder(earned=1)])
        self.assertEqual(firsts(loading(plain), give(0), show(0, ticket(2 ** 60, 0, 0, 9)),
                                show(0, ticket(2 ** 60 + 1, 0, 0, 9)), holder(), told(1)), [0, -6, 0, -5, 1, 0])

    def test_a_new_holder_s_floor_behind_the_last_number(self):
        plain = plain_house(2 ** 60 + 1)
        again = plain_house(2 ** 60 + 1, [plain_holder(floor=2 ** 60)])
        self.assertEqual(saved_after(loading(plain), holder()), again)
        self.assertEqual(firsts(loading(again), show(0, ticket(2 ** 60, 0, 0, 9))), [0, -5])


if __name__ == "__main__":
    unittest.main()
