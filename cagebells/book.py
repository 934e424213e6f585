"""The book: the deeds in order, and how all stood behind each of them."""

from cagebells.drum import CAGES
from cagebells.errors import BookFull, NoTick, NothingDone
from cagebells.speeds import place_after


class Standing:
    def __init__(self, place, opened, bells, yard):
        self.place = place
        self.opened = list(opened)
        self.bells = bells
        self.yard = yard

    def twin(self):
        return Standing(self.place, self.opened, self.bells.twin(), self.yard.twin())


class Book:
    def __init__(self, first, most):
        self.first = first
        self.most = most
        self.rows = []

    def write(self, deed, ticks, speed, standing):
        if len(self.rows) >= self.most:
            raise BookFull("the book has no room for a further deed")
        began = self.now()
        self.rows.append((began, began + ticks, deed, speed, standing))

    def strike(self):
        if not self.rows:
            raise NothingDone("there is no deed to take back")
        return self.rows.pop()[2]

    def now(self):
        if not self.rows:
            return 0
        return self.rows[len(self.rows) - 1][1]

    def latest(self):
        if not self.rows:
            return self.first
        return self.rows[len(self.rows) - 1][4]

    def told(self):
        return [(began, ended, deed) for began, ended, deed, speed, standing in self.rows]

    def place_at(self, tick):
        self.refuse_tick(tick)
        place = self.first.place
        ahead = self.first.place
        for began, ended, deed, speed, standing in self.rows:
            if began <= tick:
                place = place_after(ahead, standing.place, speed, tick - began)
                ahead = standing.place
        return place

    def spots_at(self, tick):
        self.refuse_tick(tick)
        spots = self.first.yard.spots()
        for began, ended, deed, speed, standing in self.rows:
            if ended <= tick:
                spots = standing.yard.spots()
        return spots

    def refuse_tick(self, tick):
        if tick < 0 or tick > self.now():
            raise NoTick("the book tells of ticks from 0 to now")

    def rides(self):
        found = []
        for began, ended, deed, speed, standing in self.rows:
            if deed[0] == "wind":
                aboard = [(standing.yard.in_cage(cage), cage, began, ended) for cage in CAGES]
                found.extend([ride for ride in aboard if ride[0] is not None])
        return found
