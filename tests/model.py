"""A second floor, written from the document as plainly as can be, to compare with the first one."""

from stockfloor.errors import BadMany, BadPlace, BadWare, NoHold, SamePlace, TooFew


def need_ware(ware):
    if not (isinstance(ware, str) and ware.islower() and ware.isalpha() and len(ware) <= 20):
        raise BadWare


def need_places(*places):
    for place in places:
        if type(place) is not int or place not in range(10000):
            raise BadPlace
    if len(places) == 2 and places[0] == places[1]:
        raise SamePlace


def need_many(many, least=1):
    if type(many) is not int or not least <= many <= 10 ** 30:
        raise BadMany


class Model:
    """Keeps its holds as [number, place, ware, amount] and counts everything anew each time."""

    def __init__(self):
        self.lies = {}
        self.holds = []
        self.made = 0
        self.flows = []
        self.entries = []

    def there(self, place, ware):
        return self.lies.get((place, ware), 0)

    def held(self, place, ware):
        return sum(hold[3] for hold in self.holds if hold[1:3] == [place, ware])

    def free(self, place, ware):
        return self.there(place, ware) - self.held(place, ware)

    def flow(self, kind, ware):
        return sum(many for its, of, many in self.flows if (its, of) == (kind, ware))

    def put(self, place, ware, more):
        self.lies[place, ware] = self.there(place, ware) + more

    def need_free(self, place, ware, many):
        if self.free(place, ware) < many:
            raise TooFew

    def find(self, number):
        for hold in self.holds:
            if type(number) is int and hold[0] == number:
                return hold
        raise NoHold

    def make(self, place, ware, many):
        self.made += 1
        self.holds.append([self.made, place, ware, many])
        return self.made

    def do(self, entry):
        told = getattr(self, "do_" + entry[0])(*entry[1:])
        assert all(self.free(place, ware) >= 0 for place, ware in self.lies)
        self.entries.append(entry)
        return told

    def do_come(self, place, ware, many):
        need_ware(ware)
        need_places(place)
        need_many(many)
        self.put(place, ware, many)
        self.flows.append(("came", ware, many))

    def do_go(self, place, ware, many):
        need_ware(ware)
        need_places(place)
        need_many(many)
        self.need_free(place, ware, many)
        self.put(place, ware, -many)
        self.flows.append(("went", ware, many))

    def do_move(self, start, goal, ware, many):
        need_ware(ware)
        need_places(start, goal)
        need_many(many)
        self.need_free(start, ware, many)
        self.put(start, ware, -many)
        self.put(goal, ware, many)

    def do_hold(self, place, ware, many):
        need_ware(ware)
        need_places(place)
        need_many(many)
        self.need_free(place, ware, many)
        return self.make(place, ware, many)

    def do_let(self, number):
        self.holds.remove(self.find(number))

    def do_take(self, number):
        _, place, ware, many = hold = self.find(number)
        self.holds.remove(hold)
        self.put(place, ware, -many)
        self.flows.append(("went", ware, many))

    def do_shift(self, number, goal):
        _, start, ware, many = hold = self.find(number)
        need_places(start, goal)
        self.put(start, ware, -many)
        self.put(goal, ware, many)
        hold[1] = goal

    def do_counted(self, place, ware, many):
        need_ware(ware)
        need_places(place)
        need_many(many, least=0)
        self.flows.append(("righted", ware, many - self.there(place, ware)))
        self.lies[place, ware] = many
        lost = []
        while self.held(place, ware) > many:
            last = max((hold for hold in self.holds if hold[1:3] == [place, ware]), key=lambda hold: hold[0])
            part = min(last[3], self.held(place, ware) - many)
            last[3] -= part
            if last[3] == 0:
                self.holds.remove(last)
            lost.append((last[0], part))
        return lost

    def do_wish(self, ware, many):
        need_ware(ware)
        need_many(many)
        if sum(self.free(place, ware) for place, its in self.lies if its == ware) < many:
            raise TooFew
        numbers = []
        while many > 0:
            room = max((place for place, its in self.lies if its == ware),
                       key=lambda place: (self.free(place, ware), -place))
            part = min(many, self.free(room, ware))
            numbers.append(self.make(room, ware, part))
            many -= part
        return numbers

    def look(self, wares, places):
        """The same as looks.look tells of a floor."""
        numbers = sorted(hold[0] for hold in self.holds)
        holding = {hold[0]: tuple(hold[1:]) for hold in self.holds}
        return {
            "book": self.entries,
            "numbers": numbers,
            "holding": [holding.get(number) for number in range(max(numbers, default=0) + 3)],
            "wares": [
                (ware, sorted(place for place, its in self.lies if its == ware and self.there(place, its) > 0),
                 sum(many for (_, its), many in self.lies.items() if its == ware),
                 self.flow("came", ware), self.flow("went", ware), self.flow("righted", ware))
                for ware in wares
            ],
            "places": [
                (place, ware, self.there(place, ware), self.held(place, ware), self.free(place, ware))
                for ware in wares for place in places
            ],
        }
