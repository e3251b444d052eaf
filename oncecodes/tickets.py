"""A ticket: what its bytes are before they are wrapped."""

from oncecodes.figures import bytes_low_first, number_low_first
from oncecodes.ranges import LAST_END

# Of a ticket that is wrapped.
TICKET_SIZE = 40


def ticket_bytes(number, place, rights, beginning, end):
    """A ticket's 32 bytes."""
    first = bytes_low_first(number, 8) + bytes_low_first(place, 4) + bytes_low_first(rights, 4)
    return first + bytes_low_first(beginning, 8) + bytes_low_first(end, 8)


class Ticket:
    """What 32 bytes tell, whether a house has given such a ticket or not."""

    def __init__(self, plain):
        self.plain = plain
        self.number = number_low_first(plain[0:8])
        self.place = number_low_first(plain[8:12])
        self.beginning = number_low_first(plain[16:24])
        self.end = number_low_first(plain[24:32])

    def has_sound_end(self):
        """Whether a ticket can end then."""
        return self.beginning <= self.end <= LAST_END

    def is_good_at(self, now):
        """Whether it has begun and not ended."""
        return self.beginning <= now < self.end
