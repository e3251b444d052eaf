"""A house: its key, its holders, the next ticket's number, and the tickets that were taken back."""

from oncecodes.holders import LAST_COUNTER, Holder
from oncecodes.ranges import LAST_FIRST, LAST_STEP, PLACES
from oncecodes.ranges import are_digits, is_code, is_place, is_secret, is_time, is_within
from oncecodes.refusals import NO_HOLDER, NO_ROOM, NOT_NOW, OUT_OF_RANGE


class House:
    """Its calls answer a list of numbers; one that refuses leaves the house as it was."""

    def __init__(self, key):
        self.key = key
        self.number = 1
        self.holders = [None] * PLACES
        self.taken = []

    def free_place(self):
        """The least place without a holder, or None."""
        for place, holder in enumerate(self.holders):
            if holder is None:
                return place
        return None

    def add_holder(self, step, digits, first, secret):
        """A new holder; its place."""
        if not (is_within(step, 0, LAST_STEP) and are_digits(digits)):
            return [OUT_OF_RANGE]
        if not (is_within(first, 0, LAST_FIRST) and is_secret(secret)):
            return [OUT_OF_RANGE]
        place = self.free_place()
        if place is None:
            return [NO_ROOM]
        # Tickets of one who had the place before are void for the new holder.
        self.holders[place] = Holder(secret, step, digits, first, self.number - 1)
        return [place]

    def drop_holder(self, place):
        """The place is free; 0."""
        if not is_place(place):
            return [OUT_OF_RANGE]
        if self.holders[place] is None:
            return [NO_HOLDER]
        self.holders[place] = None
        return [0]

    def try_code(self, place, now, code):
        """1 if the holder's code is good, else 0."""
        if not (is_place(place) and is_time(now) and is_code(code)):
            return [OUT_OF_RANGE]
        holder = self.holders[place]
        if holder is None:
            return [NO_HOLDER]
        if now < holder.until:
            return [NOT_NOW]
        if holder.counter > LAST_COUNTER:
            return [NO_ROOM]
        return [holder.take_code(now, code)]
