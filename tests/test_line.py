"""The list of calls as a whole, and what is said of all calls."""

import io
import random
import unittest
from contextlib import redirect_stderr, redirect_stdout

import model
from calls import KEY, KEY24, KEY32, LAST_END, LATEST, SECRET, WRONG
from calls import ask, attempt, begin, both, code, drop, firsts, give, holder, load, loading, mark, mix, plain_holder
from calls import plain_house, plain_ticket, right, save, show, sweep, take, told, two, unwrap, unwrapped, void, wrap
from calls import wrapped
from oncecodes.house import answers


# Of each call of a house: its refusals, and 0 for all else, that the lists by chance come upon.
REACHED = {10: (0, -2), 11: (0, -2), 12: (0, -2, -3), 13: (0, -2, -3, -4, -6), 14: (0, -2, -3, -4, -6),
           15: (0, -2, -3), 16: (0, -2, -3, -4, -6), 17: (0, -2, -4, -5, -7), 18: (0, -2, -5, -6), 19: (0, -2, -3),
           20: (0, -2), 21: (0, -2), 22: (0, -5)}


class Written(unittest.TestCase):
    def test_calls_and_answers_number_by_number(self):
        calls = [0, 6, 0, 20] + SECRET + [10, 16] + KEY + [11, 0, 6, 0, 20] + SECRET
        calls += [13, 0, 7, 6] + list(b"755224") + [12, 64] + [12, 0] + [4, 2, 0, 0, 16] + KEY
        given = [7, 6] + list(b"755224") + [1, 0, 1, 0, 1, 1, 1, -2, 1, 0, 2, 0, 89]
        self.assertEqual(answers(calls), given)

    def test_the_other_calls_number_by_number(self):
        row = wrapped(KEY, plain_ticket(1, 0, 9, 7, 10))
        calls = [10, 16] + KEY + [11, 0, 6, 0, 20] + SECRET + [14, 0, 7, 6, 12] + list(b"755224287082") + [15, 0]
        calls += [16, 0, 7, 3, 9] + [17, 9, 40] + row + [18, 40] + row + [17, 9, 40] + row + [20, 9] + [19, 0]
        calls += [18, 40] + row + [20, 10] + [14, 0, 7, 5, 0]
        given = [1, 0, 1, 0, 1, 1, 5, 0, 2, 0, 0, 1] + [41, 40] + row + [33, 0] + plain_ticket(1, 0, 9, 7, 10)
        given += [1, 0, 1, -4, 1, 1, 1, 0, 1, -5, 1, 0, 1, -2]
        self.assertEqual(answers(calls), given)

    def test_save_and_load_number_by_number(self):
        saved = wrapped(KEY24, plain_house())
        self.assertEqual(answers([10, 16] + KEY + [21, 24] + KEY24 + [20, 0]), [1, 0, 12313, 12312] + saved + [1, 0])
        calls = [15, 0, 22, 16] + KEY + [24] + KEY24 + [12312] + saved + [15, 0, 21, 24] + KEY24
        self.assertEqual(answers(calls), [1, -2, 1, 0, 1, -3, 12313, 12312] + saved)

    def test_empty_rows(self):
        self.assertEqual(answers([0, 6, 0, 0, 1, 0, 0, 2, 0, 0, 3, 0, 0, 10, 0]), [1, -2] * 5)
        self.assertEqual(answers([3, 16] + KEY + [0])[:2], [17, 16])
        begun = [10, 16] + KEY
        rows = [13, 0, 0, 0, 14, 0, 0, 9, 0, 14, 0, 0, 6, 0, 17, 0, 0, 18, 0, 21, 0, 22, 0, 0, 0]
        self.assertEqual(answers(begun + rows), [1, 0] + [1, -2] * 7)

    def test_200_calls(self):
        given = firsts(begin(), *[holder()] * 64, *[drop(9)] * 135)
        self.assertEqual(given, [0] + list(range(64)) + [0] + [-3] * 134)

    def test_200_calls_of_every_kind(self):
        calls = [begin(), holder(), holder(step=30)]
        given = [0, 0, 1]
        for k in range(28):
            row = wrapped(KEY, plain_ticket(k + 1, 0, k, k, k + 5))
            calls += [two(0, 0, 6, both(2 * k)), told(0), give(0, k, 5, k), show(k + 4, row), take(row), sweep(k),
                      void(1)]
            given += [1, 0, 40, 0, 0, min(k + 1, 5), 0]
        calls.append(code(6, 0))
        self.assertEqual(len(calls), 200)
        self.assertEqual(firsts(*calls), given + [6])

    def test_many_saves(self):
        # 81 of them are as many as the answers of one list have room for.
        calls = begin() + save(KEY) * 81
        saved = wrapped(KEY, plain_house())
        self.assertEqual(answers(calls), [1, 0] + ([12313, 12312] + saved) * 81)

    def test_near_16000_numbers(self):
        plain = plain_house(300, [plain_holder(earned=1)] * 64, [(number, 50) for number in range(1, 257)])
        calls = loading(plain) + begin() + mark(KEY, [1] * 3207)
        calls += [number for k in range(196) for number in told(k)]
        self.assertEqual(len(calls), 16000)
        self.assertEqual(len(answers(calls)), 2 + 2 + 18 + 2 * 196)
        calls = loading(plain) + [number for k in range(64) for number in give(k, k, 1, 2)]
        calls += [number for k in range(65) for number in show(k, wrapped(KEY, plain_ticket(300 + k, k, 2, k, k + 1)))]
        self.assertLess(len(calls), 16000)
        self.assertEqual(len(answers(calls)), 2 + 64 * 42 + 64 * 34 + 2)

    def test_parts_between_a_house_s_calls(self):
        given = firsts(begin(), holder(), code(6, 0), attempt(0, 0, "755224"), wrap(KEY32, [1] * 16), mix(1, 0),
                       attempt(0, 0, "755224"), mark(KEY, []), unwrap(KEY, [0] * 24), attempt(0, 0, "287082"))
        self.assertEqual(given, [0, 0, 6, 1, 24, -2, 0, 16, -5, 1])


class Kept(unittest.TestCase):
    def setUp(self):
        self.saved = wrapped(KEY24, plain_house(1, [plain_holder(earned=1)]))

    def calls(self):
        row = wrapped(KEY, plain_ticket(1, 0, 0, 0, 100))
        rows = [code(8, 3), wrap(KEY, list(range(24))), unwrap(KEY, list(range(24))), mark(KEY, [1, 2, 3]), mix(7, 5),
                told(0), begin(), holder(), attempt(0, 0, "755224"), attempt(0, 0, "755224"), give(0), show(0, row),
                take(row), take(row), show(0, row), two(0, 0, 6, both(1)), give(0), told(0), void(0), sweep(50),
                save(KEY), drop(0), drop(0), load(KEY, KEY24, self.saved), told(0), give(0), show(1, row), save(KEY)]
        return [number for row in rows for number in row]

    def test_what_is_handed_in_stays(self):
        calls = self.calls()
        answers(calls)
        self.assertEqual(calls, self.calls())

    def test_nothing_is_kept_from_one_time_to_the_next(self):
        calls = self.calls()
        first = answers(calls)
        self.assertEqual(answers(calls), first)
        self.assertEqual(answers(drop(0)), [1, -2])
        self.assertEqual(answers(self.calls()), first)

    def test_each_list_given_back_is_its_own(self):
        calls = self.calls()
        first = answers(calls)
        copy = list(first)
        first.clear()
        self.assertEqual(answers(calls), copy)

    def test_whole_numbers_alone(self):
        given = answers(self.calls())
        self.assertIs(type(given), list)
        self.assertEqual({type(number) for number in given}, {int})

    def test_nothing_is_printed(self):
        out = io.StringIO()
        with redirect_stdout(out), redirect_stderr(out):
            answers(self.calls())
        self.assertEqual(out.getvalue(), "")


class NoHouse(unittest.TestCase):
    """Every call of a house but begin and load, with arguments that are right and with some that are wrong."""

    def test_before_any_begin(self):
        calls = [holder(), drop(0), attempt(0, 0, right(0)), two(0, 0, 6, both(0)), told(0), give(0),
                 show(0, [0] * 40), take([0] * 40), void(0), sweep(0), save()]
        self.assertEqual(ask(*calls), [[-2]] * 11)
        self.assertEqual(ask(begin([1] * 15), *calls), [[-2]] * 12)
        wrong = [holder(digits=9), drop(64), attempt(64, 0, WRONG), two(0, 0, 5, b""), told(64), give(0, span=0),
                 show(LATEST + 1, [0] * 40), void(64), sweep(LATEST + 1), save([])]
        self.assertEqual(ask(*wrong), [[-2]] * 10)

    def test_refused_calls_leave_nothing_behind(self):
        self.assertEqual(firsts(give(0), void(0), take([0] * 40), sweep(9), begin(), told(0), sweep(9)),
                         [-2] * 4 + [0, -3, 0])

    def test_load_needs_no_house(self):
        self.assertEqual(firsts(told(0), loading(plain_house(1, [plain_holder()])), told(0)), [-2, 0, 0])


class LikeTheModel(unittest.TestCase):
    """Long lists of calls by chance, most of them near an edge."""

    def setUp(self):
        self.chance = random.Random(6238)

    def pick(self, *choices):
        return self.chance.choice(choices)

    def pick_place(self):
        return self.pick(0, 0, 0, 1, 1, 2, 3, 63, 64)

    def pick_time(self):
        return self.pick(0, 29, 30, 60, 90, 95, 120, 150, 200, LATEST, LATEST + 1)

    def pick_counter(self, one, now, *ahead):
        """A counter near those whose codes are good."""
        base = one["next"] if one["step"] == 0 else now // one["step"]
        return max(0, base + self.pick(*ahead))

    def pick_try(self, house):
        place = self.pick_place()
        now = self.pick_time()
        one = (house.holders or {}).get(place)
        shown = b"000000"
        if one is not None and self.chance.random() < 0.8:
            counter = self.pick_counter(one, now, -2, -1, 0, 0, 0, 1, 2, 9, 10)
            shown = bytes(model.code(one["secret"], counter, one["digits"]))
        if self.chance.random() < 0.1:
            shown = shown[1:]
        return attempt(place, now, shown), house.attempt(place, now, shown)

    def pick_two(self, house):
        place = self.pick_place()
        now = self.pick_time()
        digits = self.pick(5, 6, 7, 8, 9)
        one = (house.holders or {}).get(place)
        if one is not None and self.chance.random() < 0.8:
            digits = one["digits"]
            counter = self.pick_counter(one, now, -1, 0, 0, 1, 50, 98, 99, 100)
            shown = both(counter, digits, one["secret"])
        else:
            shown = b"0" * 2 * digits if digits in (6, 7, 8) else b""
        return two(place, now, digits, shown), house.two(place, now, digits, shown)

    def pick_holder(self, house):
        made = dict(step=self.pick(0, 0, 1, 30, 3600, 3601), digits=self.pick(6, 7, 8, 9),
                    first=self.pick(0, 1, 5, 2 ** 40, 2 ** 40 + 1),
                    secret=[self.chance.randrange(256)] * self.pick(15, 16, 20, 64, 65))
        return holder(**made), house.holder(**made)

    def pick_give(self, house):
        span = self.pick(0, 1, 30, 60, 1048576, 1048577)
        wholes = (self.pick_place(), self.pick_time(), span, self.pick(0, 2 ** 32 - 1))
        answer = house.give(*wholes)
        if len(answer) == 41:
            self.tickets.append(answer[1:])
        return give(*wholes), answer

    def forge(self, house):
        """A ticket whose fields are by chance, under the house's key or another."""
        start = self.pick(0, 30, 60, 120, LAST_END)
        end = start + self.pick(0, 1, 60, 1048576)
        near = self.pick(0, 1, (house.number or 1) - 1, house.number or 1)
        plain = plain_ticket(near, self.pick(0, 1, 2, 64, 2 ** 32 - 1), 5, self.pick(start, start + 1), end)
        key = self.pick(house.key or KEY, house.key or KEY, KEY32)
        row = model.wrap(key, plain)
        house.know(key, row, plain)
        self.tickets.append(row)

    def pick_shown(self, house):
        if self.chance.random() < 0.3:
            self.forge(house)
        row = self.chance.choice(self.tickets or [[0] * 40])
        if self.chance.random() < 0.6:
            now = self.pick_time()
            return show(now, row), house.show(now, row)
        return take(row), house.take(row)

    def pick_call(self, house):
        """A call by chance, and what the model answers to it."""
        kind = self.chance.random()
        if kind < 0.01:
            key = [3] * self.pick(16, 24, 32, 17)
            return begin(key), house.begin(key)
        if kind < 0.1:
            return self.pick_holder(house)
        if kind < 0.18:
            place = self.pick_place()
            name = self.pick("drop", "void", "told", "told")
            return dict(drop=drop, void=void, told=told)[name](place), getattr(house, name)(place)
        if kind < 0.22:
            now = self.pick_time()
            return sweep(now), house.sweep(now)
        if kind < 0.225:
            key = self.pick(KEY, KEY24, KEY32, [1] * 15)
            return save(key), house.save(key)
        if kind < 0.3:
            return self.pick_two(house)
        if kind < 0.5:
            return self.pick_give(house)
        if kind < 0.75:
            return self.pick_shown(house)
        return self.pick_try(house)

    def pick_load(self, house):
        """A load of a house that is near the edges, and often beyond one."""
        number = self.pick(1, 2, 258, 300, 2 ** 60, 2 ** 60 + 1, 2 ** 60 + 1)
        holders = []
        for k in range(4):
            made = dict(step=self.pick(0, 0, 30), digits=self.pick(6, 8), counter=self.pick(0, 5, 2 ** 60 - 3, 2 ** 60),
                        failed=self.pick(0, 4, 2 ** 31 - 1), earned=self.pick(0, 1, 1), until=self.pick(0, 30, 60),
                        floor=self.pick(0, 0, number - 1), secret=SECRET[:self.pick(16, 20)])
            holders.append(plain_holder(**made) if self.chance.random() < 0.8 else [0] * 128)
        taken = [(each, self.pick(0, 30, 60, LAST_END)) for each in range(1, min(number, self.pick(2, 256, 258)))]
        plain = plain_house(number, holders, taken[:256])
        if self.chance.random() < 0.3:
            plain[self.pick(0, 5, 9, 17, 19, 21, 40, 60, 103, 140, 8207, 8216, 12303)] ^= self.pick(1, 2, 128)
        saved = wrapped(KEY24, plain)
        house.know(KEY24, saved, plain)
        key = self.pick(KEY, KEY32)
        return load(key, KEY24, saved), house.load(key, KEY24, saved)

    def opened(self, call, answer):
        """What a call answers, what it saved unwrapped."""
        if call[0] == 21 and answer[0] == 12312:
            return answer[:1] + unwrapped(call[2:], answer[1:])
        return answer

    def test_lists_by_chance(self):
        seen = set()
        for turn in range(60):
            house = model.House()
            self.tickets = []
            pairs = [(begin(), house.begin(KEY))] if turn % 5 else []
            pairs += [(holder(digits=6), house.holder(0, 6, 0, SECRET)) for k in range(2)]
            pairs += [self.pick_call(house) for k in range(20)]
            if turn % 2:
                pairs.append(self.pick_load(house))
            pairs += [self.pick_call(house) for k in range(90 if turn % 2 else 176)]
            calls = [call for call, answer in pairs]
            self.assertLess(sum(len(call) for call in calls), 16000)
            given = [self.opened(call, answer) for call, answer in zip(calls, ask(*calls))]
            self.assertEqual(given, [answer for call, answer in pairs])
            seen |= {(call[0], min(answer[0], 0)) for call, answer in pairs}
        self.assertEqual(seen, {(number, kind) for number in REACHED for kind in REACHED[number]})


if __name__ == "__main__":
    unittest.main()
