"""A run that is led from moment to moment."""

from flatrounds.errors import NoMoment, NoPlace
from flatrounds.kinds import is_number
from flatrounds.programs import is_place
from flatrounds.runs import deeds, next_at, numbers_at, schedule, sightings


class Run:
    """A run of a program with an input, and the moment at which it stands."""

    def __init__(self, program, entered):
        self._end = deeds(program, entered)
        self._program = program
        self._entered = entered
        self._at = 0

    def moment(self):
        """How many deeds are done."""
        return self._at

    def numbers(self):
        """The numbers of all names at this moment."""
        return numbers_at(self._program, self._entered, self._at)

    def coming(self):
        """The place of the deed that is done next, and how many times its round was done; None at the end."""
        return next_at(self._program, self._entered, self._at)

    def go(self, many):
        """Goes so many deeds on."""
        if not is_number(many) or self._at + many > self._end:
            raise NoMoment()
        self._at += many

    def back(self, many):
        """Goes so many deeds back."""
        if not is_number(many) or many > self._at:
            raise NoMoment()
        self._at -= many

    def till(self, place):
        """Goes to the least later moment at which the deed at this place is next; tells whether there is one."""
        if not is_place(self._program, place):
            raise NoPlace()
        first, stride, many = schedule(self._program, self._entered, place)
        time = 0
        if first <= self._at:
            time = (self._at - first) // stride + 1
        if time >= many:
            return False
        self._at = first + stride * time
        return True

    def till_number(self, name, number):
        """Goes to the least later moment at which the name has the number; tells whether there is one."""
        found = sightings(self._program, self._entered, name, number, self._at + 1)
        if len(found) == 0:
            return False
        self._at = found[0][0]
        return True

    def copy(self):
        """A run that stands at the same moment and goes on apart."""
        other = Run(self._program, self._entered)
        other._at = self._at
        return other
