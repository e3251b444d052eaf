"""The calls of one list, answered one behind another."""

from oncecodes.parts import answer_code, answer_mark, answer_mix, answer_unwrap, answer_wrap
from oncecodes.ranges import is_key
from oncecodes.reading import Reader
from oncecodes.refusals import OUT_OF_RANGE
from oncecodes.state import House

CODE = 0
WRAP = 1
UNWRAP = 2
MARK = 3
MIX = 4
BEGIN = 10
HOLDER = 11
DROP = 12
TRY = 13


def answer_part(number, wholes, rows):
    """The answer of a part, which needs no house."""
    if number == CODE:
        return answer_code(wholes[0], wholes[1], rows[0])
    if number == WRAP:
        return answer_wrap(rows[0], rows[1])
    if number == UNWRAP:
        return answer_unwrap(rows[0], rows[1])
    if number == MARK:
        return answer_mark(rows[0], rows[1])
    return answer_mix(wholes[0], wholes[1], wholes[2], rows[0])


def answer_house(house, number, wholes, rows):
    """The answer of a house that there is."""
    if number == HOLDER:
        return house.add_holder(wholes[0], wholes[1], wholes[2], rows[0])
    if number == DROP:
        return house.drop_holder(wholes[0])
    return house.try_code(wholes[0], wholes[1], rows[0])


class Line:
    """What one list of calls is about: a house, or None before there is one."""

    def __init__(self):
        self.house = None

    def begin(self, key):
        """A new house in the place of the old one; 0."""
        if not is_key(key):
            return [OUT_OF_RANGE]
        self.house = House(key)
        return [0]

    def answer(self, call):
        """The numbers that the call answers."""
        if call.number <= MIX:
            return answer_part(call.number, call.wholes, call.rows)
        if call.number == BEGIN:
            return self.begin(call.rows[0])
        if self.house is None:
            return [OUT_OF_RANGE]
        return answer_house(self.house, call.number, call.wholes, call.rows)


def answers(calls):
    """For each call how many numbers it answers, then these."""
    reader = Reader(calls)
    line = Line()
    given = []
    while not reader.at_end():
        answer = line.answer(reader.read_call())
        given.append(len(answer))
        given.extend(answer)
    return given
