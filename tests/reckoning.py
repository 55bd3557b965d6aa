"""What a sheet tells, reckoned step by step as the document says it, with Python's own fractions."""

from fractions import Fraction
from math import ceil, floor

from tests.things import worth


class Reckoned:
    def __init__(self, sheet):
        (self.stretches, rest), takes, self.lanes = sheet
        self.rest = worth(rest)
        self.takes = {name: tones for name, tones in takes}
        self.moments = [Fraction(0)]
        self.lengths = []
        for many, first, last in self.stretches:
            first, last = worth(first), worth(last)
            self.lengths += [first + (last - first) * (2 * i + 1) / (2 * many) for i in range(many)]

    def length(self, step):
        return self.lengths[step] if step < len(self.lengths) else self.rest

    def begin(self, step):
        """The moment at which a step begins."""
        while len(self.moments) <= step:
            self.moments.append(self.moments[-1] + self.length(len(self.moments) - 1))
        return self.moments[step]

    def moment(self, place):
        return self.begin(floor(place)) + (place - floor(place)) * self.length(floor(place))

    def place(self, moment):
        step = 0
        while self.begin(step + 1) <= moment:
            step += 1
        return step + (moment - self.begin(step)) / self.length(step)

    def piece(self, n):
        return [piece for lane in self.lanes for piece in lane[3] if piece[0] == n][0]

    def lane(self, name):
        return [lane for lane in self.lanes if lane[0] == name][0]

    def covers(self, piece, place):
        return piece[2] <= place < piece[2] + piece[3]

    def content(self, piece, place):
        _, _, at, _, way, start, speed, _ = piece
        gone = place - at if way == "bound" else self.moment(place) - self.moment(Fraction(at))
        return worth(start) + worth(speed) * gone

    def level(self, piece, place):
        shape = [(worth(x), worth(y)) for x, y in piece[7]]
        place -= piece[2]
        for (x, y), (next_x, next_y) in zip(shape, shape[1:]):
            if x <= place <= next_x:
                return y + (next_y - y) * (place - x) / (next_x - x)

    def tone(self, piece, place):
        tones = self.takes[piece[1]]
        number = floor(self.content(piece, place))
        return tones[number] if number < len(tones) else 0

    def sound(self, piece, place):
        return self.tone(piece, place) * self.level(piece, place) if self.covers(piece, place) else Fraction(0)

    def highest(self, lane, place):
        covering = [piece for piece in lane[3] if self.covers(piece, place)]
        return covering[-1] if covering else None

    def lane_sound(self, lane, place):
        piece = self.highest(lane, place)
        if lane[2] == 1 or piece is None:
            return Fraction(0)
        return worth(lane[1]) * self.sound(piece, place)

    def heard_at(self, place):
        return sum([self.lane_sound(lane, place) for lane in self.lanes], Fraction(0))

    def heard(self, moment):
        return self.heard_at(self.place(moment))

    def runs(self, lane):
        last = max([piece[2] + piece[3] for piece in lane[3]], default=0)
        over_steps = [self.highest(lane, step) for step in range(last)]
        runs = []
        for step, piece in enumerate(over_steps):
            if piece is None:
                continue
            if runs and runs[-1][1] == step and runs[-1][2] == piece[0]:
                runs[-1] = (runs[-1][0], step + 1, piece[0])
            else:
                runs.append((step, step + 1, piece[0]))
        return runs

    def grains(self, piece):
        """(from, to, number, tone) of each grain, found step by step."""
        tones = self.takes[piece[1]]
        firsts = {floor(worth(piece[5])): Fraction(piece[2])}
        for step in range(piece[2], piece[2] + piece[3]):
            low = self.content(piece, Fraction(step))
            high = self.content(piece, Fraction(step + 1))
            for number in range(ceil(low), ceil(high)):
                firsts.setdefault(number, step + (number - low) / (high - low))
        ends = {number - 1: place for number, place in firsts.items()}
        end = Fraction(piece[2] + piece[3])
        return [(firsts[k], ends.get(k, end), k, tones[k]) for k in sorted(firsts) if k < len(tones)]

    def corners(self, piece):
        return [piece[2] + worth(place) for place, _ in piece[7]]

    def loudest(self, piece, begin=None, end=None):
        begin = piece[2] if begin is None else begin
        end = piece[2] + piece[3] if end is None else end
        found = Fraction(0)
        for first, last, _, tone in self.grains(piece):
            first, last = max(first, begin), min(last, end)
            if first < last:
                inner = [place for place in self.corners(piece) if first <= place <= last]
                found = max([found] + [abs(tone) * self.level(piece, place) for place in [first, last] + inner])
        return found

    def loudest_lane(self, lane):
        if lane[2] == 1:
            return Fraction(0)
        by_run = [self.loudest(self.piece(n), begin, end) for begin, end, n in self.runs(lane)]
        return worth(lane[1]) * max(by_run, default=Fraction(0))

    def bends(self, first, last):
        """All moments from a first to a last one between which nothing bends or jumps, those two among them."""
        places = [Fraction(step) for step in range(floor(self.place(first)), ceil(self.place(last)) + 1)]
        for lane in self.lanes:
            for piece in lane[3]:
                places += self.corners(piece)
                places += [place for grain in self.grains(piece) for place in grain[:2]]
        moments = {self.moment(place) for place in places}
        return sorted({moment for moment in moments if first < moment < last} | {first, last})
