"""Promises 6, 7 and 8: told, give, show, take, void, sweep."""

import unittest

from calls import KEY, KEY24, KEY32, LAST_END, LATEST, WIDEST, WRONG
from calls import ask, ask_last, attempt, begin, drop, firsts, give, holder, loading, low, plain_holder, plain_house
from calls import plain_ticket, right, saved_after, show, sweep, take, told, unwrapped, void, wrapped

SPAN = 1048576


def made(number, place, rights, beginning, end, key=KEY):
    """A ticket wrapped by the call wrap."""
    return wrapped(key, plain_ticket(number, place, rights, beginning, end))


def earned(place=0, counter=0):
    """A call of try that is right for a holder who was handed the counters from there on."""
    return attempt(place, 0, right(counter))


def issued(count, key=KEY):
    """Calls by which one holder is given that many tickets, each from 100 to 200."""
    calls = [begin(key), holder()]
    for k in range(count):
        calls += [earned(0, k), give(0, 100, 100, 7)]
    return calls


def ticket(number, key=KEY):
    """The ticket of that number which the calls of issued give."""
    return made(number, 0, 7, 100, 200, key)


class Told(unittest.TestCase):
    def test_a_new_holder(self):
        self.assertEqual(ask(begin(), holder(first=5), holder(step=30, first=LATEST), told(0), told(1))[3:],
                         [[0, 5, 0, 0, 0], [0, LATEST, 0, 0, 0]])

    def test_after_right_and_wrong_codes(self):
        wrong = attempt(0, 100, WRONG)
        answers = ask(begin(), holder(), attempt(0, 100, right(3)), told(0), wrong, told(0), wrong, wrong, wrong,
                      told(0), wrong, told(0), wrong, told(0), attempt(0, 160, right(4)), told(0))
        self.assertEqual([answer for answer in answers if len(answer) > 1],
                         [[0, 4, 0, 0, 1], [0, 4, 1, 0, 1], [0, 4, 4, 0, 1], [0, 4, 5, 160, 1], [0, 4, 5, 160, 1],
                          [0, 5, 0, 160, 1]])

    def test_of_a_timed_one(self):
        self.assertEqual(ask_last(begin(), holder(step=30), attempt(0, 3000, right(101)), told(0)), [0, 102, 0, 0, 1])

    def test_after_give(self):
        self.assertEqual(ask_last(begin(), holder(), earned(), give(0), told(0)), [0, 1, 0, 0, 0])
        self.assertEqual(ask_last(begin(), holder(), earned(), give(0, span=0), told(0)), [0, 1, 0, 0, 1])
        self.assertEqual(ask_last(begin(), holder(), earned(), give(0), earned(0, 1), told(0)), [0, 2, 0, 0, 1])

    def test_each_holder_for_itself(self):
        answers = ask(begin(), holder(), holder(first=8), earned(1, 8), attempt(0, 0, WRONG), told(0), told(1))
        self.assertEqual(answers[-2:], [[0, 0, 1, 0, 0], [0, 9, 0, 0, 1]])

    def test_it_changes_nothing(self):
        calls = [begin(), holder(), earned()]
        self.assertEqual(saved_after(*calls, told(0), told(1), told(64)), saved_after(*calls))

    def test_places(self):
        answers = firsts(begin(), told(0), *[holder()] * 64, told(63), told(64), told(WIDEST), told(-1), drop(63),
                         told(63))
        self.assertEqual(answers[1], -3)
        self.assertEqual(answers[-6:], [0, -2, -2, -2, 0, -3])


class Give(unittest.TestCase):
    def test_the_ticket_s_bytes(self):
        for key in (KEY, KEY24, KEY32):
            for now, span, rights in ((0, 1, 0), (1000, 600, 0x01020304), (LATEST, SPAN, WIDEST)):
                answer = ask_last(begin(key), holder(), earned(), give(0, now, span, rights))
                self.assertEqual((answer[0], len(answer)), (40, 41))
                plain = unwrapped(key, answer[1:])
                self.assertEqual(plain[0:8], [1, 0, 0, 0, 0, 0, 0, 0])
                self.assertEqual(plain[8:12], [0, 0, 0, 0])
                self.assertEqual(plain[12:16], low(rights, 4))
                self.assertEqual(plain[16:24], low(now, 8))
                self.assertEqual(plain[24:], low(now + span, 8))

    def test_the_ticket_is_what_wrap_makes(self):
        answer = ask_last(begin(), holder(), holder(), earned(1), give(1, 5, 6, 7))
        self.assertEqual(answer, [40] + made(1, 1, 7, 5, 11))

    def test_numbers_go_up_over_all_holders(self):
        order = [3, 0, 63, 3, 1, 0]
        calls = [begin()] + [holder()] * 64
        counters = [0] * 64
        for place in order:
            calls += [earned(place, counters[place]), give(place, place, 9, 8)]
            counters[place] += 1
        answers = [answer for answer in ask(*calls) if len(answer) == 41]
        for k, place in enumerate(order):
            self.assertEqual(answers[k][1:], made(k + 1, place, 8, place, place + 9))

    def test_many_numbers(self):
        answers = [answer for answer in ask(*issued(99)) if len(answer) == 41]
        self.assertEqual([unwrapped(KEY, answer[1:])[0] for answer in answers], list(range(1, 100)))

    def test_spans(self):
        for span, answer in ((0, -2), (1, 40), (SPAN, 40), (SPAN + 1, -2), (WIDEST, -2), (-1, -2)):
            self.assertEqual(firsts(begin(), holder(), earned(), give(0, 0, span))[-1], answer)

    def test_times(self):
        for now, answer in ((0, 40), (LATEST, 40), (LATEST + 1, -2), (2 ** 64 - 1, -2), (-1, -2)):
            self.assertEqual(firsts(begin(), holder(), earned(), give(0, now))[-1], answer)

    def test_rights(self):
        for rights, answer in ((0, 40), (WIDEST, 40), (WIDEST + 1, -2), (-1, -2)):
            self.assertEqual(firsts(begin(), holder(), earned(), give(0, rights=rights))[-1], answer)

    def test_places(self):
        self.assertEqual(firsts(begin(), holder(), give(1), give(63), give(64), give(WIDEST), give(-1))[2:],
                         [-3, -3, -2, -2, -2])

    def test_nothing_earned(self):
        self.assertEqual(firsts(begin(), holder(), give(0), attempt(0, 0, WRONG), give(0))[2:], [-4, 0, -4])

    def test_a_second_one_without_another_code(self):
        self.assertEqual(firsts(begin(), holder(), earned(), give(0), give(0), earned(0, 1), give(0), give(0))[2:],
                         [1, 40, -4, 1, 40, -4])

    def test_two_codes_earn_one_ticket(self):
        self.assertEqual(firsts(begin(), holder(), earned(), earned(0, 1), give(0), give(0))[2:], [1, 1, 40, -4])

    def test_what_another_holder_has_earned(self):
        self.assertEqual(firsts(begin(), holder(), holder(), earned(), give(1), give(0))[3:], [1, -4, 40])

    def test_a_wrong_code_or_a_lock_takes_nothing_away(self):
        self.assertEqual(firsts(begin(), holder(), earned(), *[attempt(0, 100, WRONG)] * 5, give(0, 100))[-1], 40)

    def test_a_refusal_uses_no_number(self):
        calls = [begin(), holder(), holder(), earned()]
        refused = [give(1), give(2), give(0, span=0), give(0, LATEST + 1), give(64)]
        self.assertEqual(firsts(*calls, *refused)[4:], [-4, -3, -2, -2, -2])
        self.assertEqual(saved_after(*calls, *refused), saved_after(*calls))

    def test_wrong_arguments_come_ahead_of_no_holder(self):
        self.assertEqual(firsts(begin(), give(0, span=0), give(0, LATEST + 1), give(0))[1:], [-2, -2, -3])

    def test_wrong_arguments_come_ahead_of_nothing_earned(self):
        self.assertEqual(firsts(begin(), holder(), give(0, span=0), give(0, LATEST + 1), give(0))[2:], [-2, -2, -4])

    def test_the_last_number(self):
        plain = plain_house(2 ** 60, [plain_holder(earned=1), plain_holder(earned=1)])
        answers = ask(loading(plain), give(0, 3, 4, 5), give(0), give(1, span=0), give(1), give(2), told(1))
        self.assertEqual(answers[1], [40] + made(2 ** 60, 0, 5, 3, 7))
        self.assertEqual(answers[2:], [[-4], [-2], [-6], [-3], [0, 0, 0, 0, 1]])

    def test_no_number_is_left(self):
        plain = plain_house(2 ** 60 + 1, [plain_holder(earned=1), plain_holder()])
        self.assertEqual(firsts(loading(plain), give(2), give(1), give(0), give(0)), [0, -3, -4, -6, -6])
        self.assertEqual(saved_after(loading(plain), give(0)), plain)


class Show(unittest.TestCase):
    def test_its_holder_and_its_bytes(self):
        answer = ask_last(*issued(1), show(100, ticket(1)))
        self.assertEqual(answer, [0] + plain_ticket(1, 0, 7, 100, 200))
        given = made(1, 2, WIDEST, LATEST, LAST_END)
        answer = ask_last(begin(), holder(), holder(), holder(), earned(2), give(2, LATEST, SPAN, WIDEST),
                          show(LATEST, given))
        self.assertEqual(answer, [2] + plain_ticket(1, 2, WIDEST, LATEST, LAST_END))

    def test_from_its_beginning_to_its_end(self):
        for now, answer in ((0, -7), (99, -7), (100, 0), (150, 0), (199, 0), (200, -7), (201, -7), (LATEST, -7)):
            self.assertEqual(firsts(*issued(1), show(now, ticket(1)))[-1], answer)

    def test_as_often_as_wanted(self):
        calls = issued(1)
        shown = [show(100, ticket(1))] * 3 + [show(200, ticket(1))]
        self.assertEqual(firsts(*calls, *shown)[-4:], [0, 0, 0, -7])
        self.assertEqual(saved_after(*calls, *shown), saved_after(*calls))

    def test_each_changed_byte_is_seen(self):
        for k in range(40):
            changed = ticket(1)
            changed[k] ^= 1 << k % 8
            self.assertEqual(firsts(*issued(1), show(100, changed), take(changed))[-2:], [-5, -5])

    def test_another_house_s_key(self):
        for key in (KEY24, KEY32, [1] + KEY[1:]):
            self.assertEqual(firsts(*issued(1), show(100, ticket(1, key)), take(ticket(1, key)))[-2:], [-5, -5])
            self.assertEqual(firsts(*issued(1, key), show(100, ticket(1, key)), take(ticket(1, key)))[-2:], [0, 0])

    def test_times(self):
        for now in (LATEST + 1, 2 ** 64 - 1, -1):
            self.assertEqual(firsts(*issued(1), show(now, ticket(1)), show(now, [0] * 40))[-2:], [-2, -2])

    def test_lengths(self):
        for row in (ticket(1)[1:], ticket(1) + [0], [], [256] * 40):
            self.assertEqual(firsts(*issued(1), show(100, row), take(row))[-2:], [-2, -2])

    def test_a_holder_who_is_gone(self):
        calls = issued(1) + [drop(0)]
        self.assertEqual(firsts(*calls, show(100, ticket(1)), take(ticket(1)))[-2:], [-5, -5])

    def test_a_place_given_again(self):
        calls = issued(2) + [drop(0), holder(), show(100, ticket(1)), show(100, ticket(2)), take(ticket(2))]
        calls += [earned(), give(0, 100, 100, 7), show(100, ticket(3)), show(100, ticket(2))]
        self.assertEqual(firsts(*calls)[-9:], [0, 0, -5, -5, -5, 1, 40, 0, -5])

    def test_order_of_refusals(self):
        calls = issued(1) + [take(ticket(1))]
        answers = firsts(*calls, show(LATEST + 1, ticket(1)), show(0, ticket(1)), show(100, ticket(1)), void(0),
                         show(0, ticket(1)), show(LATEST + 1, ticket(1)))
        self.assertEqual(answers[-6:], [-2, -4, -4, 0, -5, -2])


class Forged(unittest.TestCase):
    """Tickets under the house's own key, each with a field at an edge or one beyond it."""

    def both(self, row):
        """What show at 100 and take answer, where three tickets were given and place 1 has a holder with floor 2."""
        calls = issued(2) + [holder(), earned(0, 2), give(0, 100, 100, 7)]
        return firsts(*calls, show(100, row), take(row))[-2:]

    def test_numbers(self):
        for number, answer in ((0, -5), (1, 0), (3, 0), (4, -5), (5, -5), (2 ** 32 + 1, -5), (2 ** 64 - 1, -5)):
            self.assertEqual(self.both(made(number, 0, 0, 100, 200)), [answer, answer])

    def test_holders(self):
        for place, answers in ((0, [0, 0]), (1, [1, 0]), (2, [-5, -5]), (63, [-5, -5]), (64, [-5, -5]),
                               (256, [-5, -5]), (2 ** 31, [-5, -5]), (WIDEST, [-5, -5])):
            self.assertEqual(self.both(made(3, place, 0, 100, 200)), answers)

    def test_places_beyond_a_full_house(self):
        calls = [begin()] + [holder()] * 64 + [earned(63), give(63)]
        for place, answer in ((0, 0), (63, 63), (64, -5), (WIDEST, -5), (WIDEST - 63, -5)):
            self.assertEqual(firsts(*calls, show(50, made(1, place, 0, 0, 100)))[-1], answer)

    def test_floors(self):
        for number, answers in ((1, [-5, -5]), (2, [-5, -5]), (3, [1, 0])):
            self.assertEqual(self.both(made(number, 1, 0, 100, 200)), answers)

    def test_an_end_before_the_beginning(self):
        self.assertEqual(self.both(made(3, 0, 0, 100, 99)), [-5, -5])
        self.assertEqual(self.both(made(3, 0, 0, 101, 100)), [-5, -5])
        self.assertEqual(self.both(made(3, 0, 0, 2 ** 64 - 1, 200)), [-5, -5])

    def test_an_end_at_the_beginning(self):
        self.assertEqual(self.both(made(3, 0, 0, 100, 100)), [-7, 0])
        self.assertEqual(self.both(made(3, 0, 0, 0, 0)), [-7, 0])

    def test_the_last_end(self):
        self.assertEqual(self.both(made(3, 0, 0, 100, LAST_END)), [0, 0])
        self.assertEqual(self.both(made(3, 0, 0, 100, LAST_END + 1)), [-5, -5])
        self.assertEqual(self.both(made(3, 0, 0, LAST_END, LAST_END)), [-7, 0])
        self.assertEqual(self.both(made(3, 0, 0, 100, 2 ** 64 - 1)), [-5, -5])

    def test_the_highest_byte_of_each_field(self):
        for row in (made(2 ** 56 + 3, 0, 0, 100, 200), made(3, 2 ** 24, 0, 100, 200), made(3, 0, 0, 2 ** 56 + 100, 200),
                    made(3, 0, 0, 100, 2 ** 56 + 200), made(3, 0, 0, 2 ** 56 + 100, 2 ** 56 + 200)):
            self.assertEqual(self.both(row), [-5, -5])

    def test_longer_than_any_span(self):
        self.assertEqual(self.both(made(3, 0, WIDEST, 0, LAST_END)), [0, 0])


class Take(unittest.TestCase):
    def test_it_is_good_no_more(self):
        answers = firsts(*issued(2), show(100, ticket(1)), take(ticket(1)), show(100, ticket(1)), show(100, ticket(2)))
        self.assertEqual(answers[-4:], [0, 0, -4, 0])

    def test_twice(self):
        calls = issued(2) + [take(ticket(1))]
        self.assertEqual(firsts(*calls, take(ticket(1)), sweep(0))[-2:], [0, 1])
        self.assertEqual(saved_after(*calls, take(ticket(1))), saved_after(*calls))

    def test_the_same_number_with_another_end(self):
        calls = issued(2) + [take(ticket(1))]
        self.assertEqual(saved_after(*calls, take(made(1, 0, 0, 5, 5000))), saved_after(*calls))
        self.assertEqual(firsts(*calls, show(100, made(1, 0, 0, 5, 5000)))[-1], -4)

    def test_one_whose_end_has_gone_by(self):
        calls = issued(1) + [show(LATEST, ticket(1)), take(ticket(1)), show(LATEST, ticket(1)), sweep(199), sweep(200)]
        self.assertEqual(firsts(*calls)[-5:], [-7, 0, -4, 1, 0])

    def test_one_that_has_not_begun(self):
        self.assertEqual(firsts(*issued(1), show(0, ticket(1)), take(ticket(1)), show(0, ticket(1)))[-3:], [-7, 0, -4])

    def test_number_and_end_are_kept_in_the_order_of_taking(self):
        calls = [begin(), holder()]
        for k in range(3):
            calls += [earned(0, k), give(0, 10 * k, 5, 0)]
        calls += [take(made(number, 0, 0, 10 * number - 10, 10 * number - 5)) for number in (3, 1, 2)]
        entries = saved_after(*calls)[16 + 64 * 128:]
        self.assertEqual(entries[:48], low(3, 8) + low(25, 8) + low(1, 8) + low(5, 8) + low(2, 8) + low(15, 8))
        self.assertEqual(entries[48:], [0] * (4096 - 48))

    def test_not_the_house_s(self):
        calls = issued(1)
        refused = [take([0] * 40), take(made(2, 0, 7, 100, 200)), take(ticket(1, KEY32))]
        self.assertEqual(firsts(*calls, *refused)[-3:], [-5, -5, -5])
        self.assertEqual(saved_after(*calls, *refused), saved_after(*calls))


class FullList(unittest.TestCase):
    def setUp(self):
        self.full = [(number, 1000 + number) for number in range(256, 0, -1)]

    def loaded(self, taken):
        return loading(plain_house(300, [plain_holder()], taken))

    def test_the_256th_and_the_257th(self):
        calls = [self.loaded(self.full[:255]), take(made(257, 0, 0, 0, 9)), take(made(258, 0, 0, 0, 9)),
                 show(5, made(258, 0, 0, 0, 9)), show(5, made(257, 0, 0, 0, 9)), sweep(0)]
        self.assertEqual(firsts(*calls), [0, 0, -6, 0, -4, 256])

    def test_one_that_is_in_already(self):
        calls = [self.loaded(self.full), take(made(256, 0, 0, 0, 9)), take(made(1, 0, 0, 0, 9)),
                 take(made(257, 0, 0, 0, 9)), take(made(0, 0, 0, 0, 9)), take(made(300, 0, 0, 0, 9)), take([1] * 39)]
        self.assertEqual(firsts(*calls), [0, 0, 0, -6, -5, -5, -2])
        self.assertEqual(saved_after(*calls), plain_house(300, [plain_holder()], self.full))

    def test_room_again_after_a_sweep(self):
        calls = [self.loaded(self.full), take(made(257, 0, 0, 0, 9)), sweep(1001), take(made(257, 0, 0, 0, 9)),
                 take(made(258, 0, 0, 0, 9))]
        self.assertEqual(firsts(*calls), [0, -6, 255, 0, -6])
        self.assertEqual(saved_after(*calls), plain_house(300, [plain_holder()], self.full[:255] + [(257, 9)]))


class Void(unittest.TestCase):
    def test_all_so_far_and_none_from_then_on(self):
        calls = issued(2) + [void(0), show(100, ticket(1)), show(100, ticket(2)), take(ticket(2)), earned(0, 2),
                             give(0, 100, 100, 7), show(100, ticket(3)), show(100, ticket(2))]
        self.assertEqual(firsts(*calls)[-8:], [0, -5, -5, -5, 1, 40, 0, -5])

    def test_one_holder_alone(self):
        calls = issued(1) + [holder(), earned(1), give(1, 100, 100, 7), void(1), show(100, ticket(1)),
                             show(100, made(2, 1, 7, 100, 200))]
        self.assertEqual(firsts(*calls)[-3:], [0, 0, -5])

    def test_what_was_earned_stays(self):
        self.assertEqual(firsts(begin(), holder(), earned(), void(0), give(0, 100, 100, 7), show(100, ticket(1)))[-3:],
                         [0, 40, 0])

    def test_before_any_ticket(self):
        calls = [begin(), holder()]
        self.assertEqual(firsts(*calls, void(0), void(0))[-2:], [0, 0])
        self.assertEqual(saved_after(*calls, void(0)), saved_after(*calls))

    def test_the_floor_is_the_last_number_of_all(self):
        calls = issued(1) + [holder(), earned(1), give(1), void(0)]
        self.assertEqual(saved_after(*calls)[16 + 32:16 + 40], low(2, 8))
        self.assertEqual(saved_after(loading(plain_house(2 ** 60 + 1, [plain_holder()])), void(0))[48:56],
                         low(2 ** 60, 8))

    def test_the_list_stays(self):
        self.assertEqual(firsts(*issued(1), take(ticket(1)), void(0), sweep(0))[-2:], [0, 1])

    def test_places(self):
        answers = firsts(begin(), void(0), *[holder()] * 64, void(63), void(64), void(WIDEST), void(-1), drop(63),
                         void(63))
        self.assertEqual(answers[1], -3)
        self.assertEqual(answers[-6:], [0, -2, -2, -2, 0, -3])


class Sweep(unittest.TestCase):
    def test_an_empty_list(self):
        self.assertEqual(firsts(begin(), sweep(0), sweep(LATEST)), [0, 0, 0])

    def test_one_before_at_and_after_an_end(self):
        for now, left in ((0, 1), (199, 1), (200, 0), (201, 0), (LATEST, 0)):
            self.assertEqual(firsts(*issued(1), take(ticket(1)), sweep(now))[-1], left)

    def test_a_ticket_swept_is_shown_again_at_an_earlier_time(self):
        calls = issued(1) + [take(ticket(1)), sweep(200), show(199, ticket(1)), show(200, ticket(1)), take(ticket(1))]
        self.assertEqual(firsts(*calls)[-4:], [0, 0, -7, 0])

    def test_the_order_of_those_that_are_left(self):
        taken = [(5, 50), (1, 10), (4, 51), (2, 49), (9, 50), (3, 52), (7, LAST_END)]
        load_them = loading(plain_house(10, [plain_holder()], taken))
        for now, left in ((0, taken), (9, taken), (49, taken[:1] + taken[2:3] + taken[4:]),
                          (50, taken[2:3] + taken[5:]), (51, taken[5:]), (LATEST, taken[6:])):
            self.assertEqual(firsts(load_them, sweep(now)), [0, len(left)])
            self.assertEqual(saved_after(load_them, sweep(now)), plain_house(10, [plain_holder()], left))

    def test_an_end_of_0_goes_at_once(self):
        self.assertEqual(firsts(loading(plain_house(10, [], [(1, 0), (2, 1)])), sweep(0), sweep(1)), [0, 1, 0])

    def test_times(self):
        calls = issued(1) + [take(ticket(1)), sweep(LATEST + 1), sweep(2 ** 64 - 1), sweep(-1), sweep(0)]
        self.assertEqual(firsts(*calls)[-4:], [-2, -2, -2, 1])


if __name__ == "__main__":
    unittest.main()
