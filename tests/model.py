"""The document's words a second time, as plainly as they stand and by other ways than the program's."""

from fractions import Fraction

LAST_TIME = 4611686018427387904
FIRST_DOSE, LAST_DOSE = 0, 1000000


class Refused(Exception):
    def __init__(self, number):
        Exception.__init__(self, number)
        self.number = number


def refuse_unless(held, number):
    if not held:
        raise Refused(number)


def two(fraction):
    return [fraction.numerator, fraction.denominator]


def best_values(readings, doses):
    """The greatest, over all starts up to a dose, of the least mean from there to an end at the dose or behind it."""
    weights = [sum(w for d, r, w, b in readings if d == dose) for dose in doses]
    totals = [sum(w * r for d, r, w, b in readings if d == dose) for dose in doses]
    best = [None] * len(doses)
    for start in range(len(doses)):
        means = []
        weight = total = 0
        for end in range(start, len(doses)):
            weight += weights[end]
            total += totals[end]
            means.append(Fraction(total, weight))
        least = None
        for end in range(len(doses) - 1, start - 1, -1):
            mean = means[end - start]
            least = mean if least is None else min(least, mean)
            best[end] = least if best[end] is None else max(best[end], least)
    return best


class Shape:
    """The curve of readings, and its line."""

    def __init__(self, readings):
        self.readings = readings
        self.doses = sorted({reading[0] for reading in readings})
        self.values = best_values(readings, self.doses)
        self.at = dict(zip(self.doses, self.values))

    def line(self, dose):
        for k, right in enumerate(self.doses):
            if dose == right:
                return self.values[k]
            if k > 0 and self.doses[k - 1] < dose < right:
                left = self.doses[k - 1]
                return (self.values[k - 1] * (right - dose) + self.values[k] * (dose - left)) / (right - left)
        return None

    def dose(self, r):
        if r < self.values[0]:
            return [1]
        if r > self.values[-1]:
            return [2]
        touched = [dose for dose in self.doses if self.at[dose] == r]
        if touched:
            return [0, touched[0], 1, touched[-1], 1]
        for k in range(1, len(self.doses)):
            low, high = self.values[k - 1], self.values[k]
            if low < r < high:
                dose = self.doses[k - 1] + (r - low) * (self.doses[k] - self.doses[k - 1]) / (high - low)
                return [0] + two(dose) * 2
        raise AssertionError("no dose")


class Model:
    def __init__(self):
        self.now = 0
        self.lots = {}
        self.results = []

    def answer(self, number, *rest):
        names = """lot point unpoint points fit blocks sums squares trial value dose step truth clash range control
            clear shift gap tick read shown changed turn lots""".split()
        try:
            return getattr(self, "call_" + names[number])(*rest)
        except Refused as refused:
            return [refused.number]

    def find(self, n):
        refuse_unless(n in (0, 1, 2, 3), -1)
        refuse_unless(n in self.lots, -2)
        return self.lots[n]

    def shape(self, lot):
        refuse_unless(lot["readings"], -5)
        return Shape(lot["readings"])

    def call_lot(self, n, e):
        refuse_unless(n in (0, 1, 2, 3), -1)
        refuse_unless(0 <= e <= LAST_TIME, -3)
        self.lots[n] = {"until": e, "readings": [], "controls": []}
        return [0]

    def in_range(self, dose, response, weight, bound=0):
        held = FIRST_DOSE <= dose <= LAST_DOSE and abs(response) <= 1000000
        return held and 1 <= weight <= 1000 and 0 <= bound <= 1000000

    def call_point(self, n, *reading):
        readings = self.find(n)["readings"]
        refuse_unless(self.in_range(*reading), -3)
        refuse_unless(len(readings) != 40, -4)
        readings.append(reading)
        return [len(readings) - 1]

    def call_unpoint(self, n, k):
        readings = self.find(n)["readings"]
        refuse_unless(k in range(len(readings)), -3)
        readings.pop(k)
        return [len(readings)]

    def call_points(self, n):
        readings = self.find(n)["readings"]
        return [0, len(readings)] + [number for reading in readings for number in reading]

    def call_fit(self, n):
        shape = self.shape(self.find(n))
        return [0, len(shape.doses)] + [number for dose in shape.doses for number in [dose] + two(shape.at[dose])]

    def call_blocks(self, n):
        shape = self.shape(self.find(n))
        answer = [0, len(set(shape.values))]
        for value in sorted(set(shape.values)):
            doses = [dose for dose in shape.doses if shape.at[dose] == value]
            weight = sum(w for d, r, w, b in shape.readings if d in doses)
            answer += [doses[0], doses[-1], len(doses), weight] + two(value)
        return answer

    def call_sums(self, n):
        shape = self.shape(self.find(n))
        answer = [0, len(shape.doses)]
        for dose in shape.doses:
            answer += two(Fraction(sum(w * (r - shape.at[d]) for d, r, w, b in shape.readings if d <= dose)))
        return answer

    def call_squares(self, n):
        shape = self.shape(self.find(n))
        return two(Fraction(sum(w * (r - shape.at[d]) ** 2 for d, r, w, b in shape.readings)))

    def call_trial(self, n, count, *values):
        shape = self.shape(self.find(n))
        refuse_unless(count == len(shape.doses) and all(abs(value) <= 1000000 for value in values), -3)
        at = dict(zip(shape.doses, values))
        squares = sum(w * (r - at[d]) ** 2 for d, r, w, b in shape.readings)
        return [squares, int(list(values) == sorted(values))]

    def asked(self, a, b):
        refuse_unless(1 <= b <= 1000 and abs(a) <= 1000000 * b, -3)
        return Fraction(a, b)

    def call_value(self, n, a, b):
        lot = self.find(n)
        dose = self.asked(a, b)
        line = self.shape(lot).line(dose)
        refuse_unless(line is not None, -6)
        return [0] + two(line)

    def call_dose(self, n, a, b):
        lot = self.find(n)
        r = self.asked(a, b)
        return self.shape(lot).dose(r)

    def call_step(self, n, x):
        lot = self.find(n)
        refuse_unless(FIRST_DOSE <= x <= LAST_DOSE, -3)
        shape = self.shape(lot)
        low = [shape.at[dose] for dose in shape.doses if dose <= x][-1:]
        high = [shape.at[dose] for dose in shape.doses if dose >= x][:1]
        answer = [0]
        for found in (low, high):
            answer += [1] + two(found[0]) if found else [0, 0, 0]
        return answer

    def clashing(self, readings):
        return [[i, j] for i, one in enumerate(readings) for j, other in enumerate(readings)
                if one[0] <= other[0] and other[1] + other[3] < one[1] - one[3]]

    def bounds(self, readings, x):
        lower = [r - b for d, r, w, b in readings if d <= x]
        upper = [r + b for d, r, w, b in readings if d >= x]
        return (max(lower) if lower else None), (min(upper) if upper else None)

    def call_truth(self, n, x):
        readings = self.find(n)["readings"]
        refuse_unless(FIRST_DOSE <= x <= LAST_DOSE, -3)
        refuse_unless(readings, -5)
        refuse_unless(not self.clashing(readings), -8)
        answer = [0]
        for bound in self.bounds(readings, x):
            answer += [0, 0] if bound is None else [1, bound]
        return answer

    def call_clash(self, n):
        readings = self.find(n)["readings"]
        refuse_unless(readings, -5)
        found = self.clashing(readings)
        return [1] + min(found) if found else [0]

    def call_range(self, n, lo, hi):
        readings = self.find(n)["readings"]
        refuse_unless(abs(lo) <= 2000000 and abs(hi) <= 2000000 and lo <= hi, -3)
        refuse_unless(readings, -5)
        refuse_unless(not self.clashing(readings), -8)
        # bounds are the same all the way from just behind a dose to just ahead of the next one
        near = {FIRST_DOSE, LAST_DOSE} | {d + off for d, r, w, b in readings for off in (-1, 0, 1)}
        fitting = []
        for x in sorted(near):
            lower, upper = self.bounds(readings, x)
            if FIRST_DOSE <= x <= LAST_DOSE and (lower is None or lower <= hi) and (upper is None or upper >= lo):
                fitting.append(x)
        refuse_unless(fitting, -9)
        return [fitting[0], fitting[-1]]

    def call_control(self, n, *control):
        controls = self.find(n)["controls"]
        refuse_unless(self.in_range(*control), -3)
        refuse_unless(len(controls) != 20, -4)
        controls.append(control)
        return [len(controls) - 1]

    def call_clear(self, n):
        self.find(n)["controls"] = []
        return [0]

    def shift(self, lot):
        shape = self.shape(lot)
        refuse_unless(lot["controls"], -6)
        refuse_unless(all(shape.line(d) is not None for d, r, w in lot["controls"]), -7)
        weight = sum(w for d, r, w in lot["controls"])
        return Fraction(sum(w * (r - shape.line(d)) for d, r, w in lot["controls"])) / weight

    def call_shift(self, n):
        return [0] + two(self.shift(self.find(n)))

    def call_gap(self, n, m):
        lots = [self.find(n), self.find(m)]
        one, other = [self.shape(lot) for lot in lots]
        shared = [dose for dose in sorted(one.doses + other.doses)
                  if one.line(dose) is not None and other.line(dose) is not None]
        refuse_unless(shared, -6)
        apart = [abs(one.line(dose) - other.line(dose)) for dose in shared]
        return two(max(apart)) + [shared[apart.index(max(apart))]]

    def call_tick(self, k):
        refuse_unless(1 <= k <= 10 ** 9, -1)
        refuse_unless(self.now + k <= LAST_TIME, -4)
        self.now += k
        return [0]

    def tell(self, lot, response, off):
        shape = self.shape(lot)
        return shape.dose(response - self.shift(lot) if off else Fraction(response))

    def call_read(self, n, response, off):
        lot = self.find(n)
        refuse_unless(abs(response) <= 1000000 and off in (0, 1), -3)
        doses = self.tell(lot, response, off)
        refuse_unless(self.now <= lot["until"], -9)
        refuse_unless(len(self.results) != 100, -4)
        self.results.append((self.now, n, response, off) + tuple(doses))
        return [len(self.results) - 1] + doses

    def call_shown(self, id_number):
        refuse_unless(id_number in range(len(self.results)), -1)
        return list(self.results[id_number])

    def call_changed(self):
        found = []
        told = {}
        for k, (time, n, response, off, *doses) in enumerate(self.results):
            if (n, response, off) not in told:
                try:
                    told[n, response, off] = self.tell(self.lots[n], response, off)
                except Refused:
                    told[n, response, off] = None
            if told[n, response, off] != doses:
                found.append(k)
        return [0, len(found)] + found

    def call_turn(self, n, a, b):
        lot = self.find(n)
        refuse_unless(1 <= a <= 1000 and abs(b) <= 1000000, -3)
        readings = [(d, a * r + b, w, a * bound) for d, r, w, bound in lot["readings"]]
        controls = [(d, a * r + b, w) for d, r, w in lot["controls"]]
        refuse_unless(all(self.in_range(*told) for told in readings + controls), -4)
        lot["readings"] = readings
        lot["controls"] = controls
        return [0]

    def call_lots(self):
        answer = [0, self.now]
        for n in range(4):
            lot = self.lots.get(n)
            answer += [1, lot["until"], len(lot["readings"]), len(lot["controls"])] if lot else [0, 0, 0, 0]
        return answer


def model_answers(calls):
    """The answers to calls, one list for each, by the model."""
    model = Model()
    return [model.answer(*call) for call in calls]
