"""The list of calls as a whole, and what is said of all calls."""

import io
import random
import unittest
from contextlib import redirect_stderr, redirect_stdout

import model
from calls import KEY, KEY32, SECRET
from calls import ask, attempt, begin, code, drop, firsts, holder, mark, mix, unwrap, wrap
from oncecodes.house import answers


class Written(unittest.TestCase):
    def test_calls_and_answers_number_by_number(self):
        calls = [0, 6, 0, 20] + SECRET + [10, 16] + KEY + [11, 0, 6, 0, 20] + SECRET
        calls += [13, 0, 7, 6] + list(b"755224") + [12, 64] + [12, 0] + [4, 2, 0, 0, 16] + KEY
        given = [7, 6] + list(b"755224") + [1, 0, 1, 0, 1, 1, 1, -2, 1, 0, 2, 0, 89]
        self.assertEqual(answers(calls), given)

    def test_empty_rows(self):
        self.assertEqual(answers([0, 6, 0, 0, 1, 0, 0, 2, 0, 0, 3, 0, 0, 10, 0]), [1, -2] * 5)
        self.assertEqual(answers([3, 16] + KEY + [0])[:2], [17, 16])

    def test_200_calls(self):
        given = firsts(begin(), *[holder()] * 64, *[drop(9)] * 135)
        self.assertEqual(given, [0] + list(range(64)) + [0] + [-3] * 134)

    def test_parts_between_a_house_s_calls(self):
        given = firsts(begin(), holder(), code(6, 0), attempt(0, 0, "755224"), wrap(KEY32, [1] * 16), mix(1, 0),
                       attempt(0, 0, "755224"), mark(KEY, []), unwrap(KEY, [0] * 24), attempt(0, 0, "287082"))
        self.assertEqual(given, [0, 0, 6, 1, 24, -2, 0, 16, -5, 1])


class Kept(unittest.TestCase):
    def calls(self):
        rows = [code(8, 3), wrap(KEY, list(range(24))), unwrap(KEY, list(range(24))), mark(KEY, [1, 2, 3]), mix(7, 5),
                begin(), holder(), attempt(0, 0, "755224"), attempt(0, 0, "755224"), drop(0), drop(0)]
        return [number for row in rows for number in row]

    def test_what_is_handed_in_stays(self):
        calls = self.calls()
        answers(calls)
        self.assertEqual(calls, self.calls())

    def test_nothing_is_kept_from_one_time_to_the_next(self):
        calls = self.calls()
        first = answers(calls)
        self.assertEqual(answers(calls), first)
        self.assertEqual(answers(drop(0)), [1, -2])
        self.assertEqual(answers(self.calls()), first)

    def test_each_list_given_back_is_its_own(self):
        calls = self.calls()
        first = answers(calls)
        copy = list(first)
        first.clear()
        self.assertEqual(answers(calls), copy)

    def test_whole_numbers_alone(self):
        given = answers(self.calls())
        self.assertIs(type(given), list)
        self.assertEqual({type(number) for number in given}, {int})

    def test_nothing_is_printed(self):
        out = io.StringIO()
        with redirect_stdout(out), redirect_stderr(out):
            answers(self.calls())
        self.assertEqual(out.getvalue(), "")


class LikeTheModel(unittest.TestCase):
    """Long lists of calls by chance, most of them near an edge."""

    def setUp(self):
        self.chance = random.Random(6238)

    def pick_try(self, house):
        place = self.chance.choice([0, 0, 0, 1, 1, 2, 3, 63, 64])
        now = self.chance.choice([0, 29, 30, 60, 90, 95, 120, 150, 200, 2 ** 40, 2 ** 40 + 1])
        one = (house.holders or {}).get(place)
        shown = b"000000"
        if one is not None and self.chance.random() < 0.8:
            base = one["next"] if one["step"] == 0 else now // one["step"]
            counter = max(0, base + self.chance.choice([-2, -1, 0, 0, 0, 1, 2, 9, 10]))
            shown = bytes(model.code(one["secret"], counter, one["digits"]))
        if self.chance.random() < 0.1:
            shown = shown[1:]
        return attempt(place, now, shown), house.attempt(place, now, shown)

    def pick_call(self, house):
        """A call by chance, and what the model answers to it."""
        kind = self.chance.random()
        if kind < 0.02:
            key = [3] * self.chance.choice([16, 24, 32, 17])
            return begin(key), house.begin(key)
        if kind < 0.15:
            made = dict(step=self.chance.choice([0, 0, 1, 30, 3600, 3601]), digits=self.chance.choice([6, 7, 8, 9]),
                        first=self.chance.choice([0, 1, 5, 2 ** 40, 2 ** 40 + 1]),
                        secret=[self.chance.randrange(256)] * self.chance.choice([15, 16, 20, 64, 65]))
            return holder(**made), house.holder(**made)
        if kind < 0.2:
            place = self.chance.choice([0, 1, 2, 3, 64])
            return drop(place), house.drop(place)
        return self.pick_try(house)

    def test_lists_by_chance(self):
        for turn in range(30):
            house = model.House()
            pairs = [(begin(), house.begin(KEY))] if turn % 3 else []
            pairs += [(holder(digits=6), house.holder(0, 6, 0, SECRET)) for k in range(2)]
            pairs += [self.pick_call(house) for k in range(190)]
            self.assertEqual(ask(*[call for call, answer in pairs]), [[answer] for call, answer in pairs])


if __name__ == "__main__":
    unittest.main()
