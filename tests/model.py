"""The document's words taken one by one, with Python's own fractions: slow, plain, apart from the package."""

from fractions import Fraction

LENGTHS = {0: 2, 1: 3, 2: 3, 3: 3, 4: 3, 5: 3, 6: 2}


class Refused(Exception):
    pass


def digits(number):
    return 0 if number == 0 else len(format(number, "b"))


def weight(value):
    return digits(abs(value.numerator)) + digits(value.denominator)


def split_lines(numbers):
    rest = list(numbers)
    lines = []
    while rest:
        length = LENGTHS.get(rest[0])
        if length is None or len(rest) < length:
            raise Refused(-2)
        line, rest = rest[:length], rest[length:]
        if line[0] == 1 and line[2] < 1 or line[0] != 1 and min(line[1:]) < 0:
            raise Refused(-2)
        lines.append(line)
    return lines


def reduced(rows, columns):
    """The document's way to bring equations into steps; gives the solution with 0 where it's free."""
    rows = [list(row) for row in rows]
    taken = 0
    lead_of = {}
    for column in range(columns):
        for place in range(taken, len(rows)):
            if rows[place][column] != 0:
                break
        else:
            continue
        rows[taken], rows[place] = rows[place], rows[taken]
        rows[taken] = [number / rows[taken][column] for number in rows[taken]]
        for other in range(len(rows)):
            if other != taken:
                often = rows[other][column]
                rows[other] = [a - often * b for a, b in zip(rows[other], rows[taken])]
        lead_of[column] = taken
        taken += 1
    solution = [rows[lead_of[c]][columns] if c in lead_of else Fraction(0) for c in range(columns)]
    solvable = all(row[columns] == 0 for row in rows[taken:])
    return solution, len(lead_of) == columns, solvable


def fractions(numbers, many):
    if len(numbers) != 2 * many or any(bottom < 1 for bottom in numbers[1::2]):
        raise Refused(-2)
    return [Fraction(top, bottom) for top, bottom in zip(numbers[::2], numbers[1::2])]


def squares(values):
    return sum((value * value for value in values), Fraction(0))


def straight(f, table, d):
    return [x + sum((a * b for a, b in zip(row, d)), Fraction(0)) for row, x in zip(table, f)]


class Model:
    def __init__(self):
        self.n, self.lines, self.outs, self.at = 0, [], [], None

    def call(self, parts):
        names = ("code", "point", "results", "table", "step", "take", "descend", "error", "halve", "round")
        try:
            return getattr(self, names[parts[0]])(*parts[1:])
        except Refused as refused:
            return [refused.args[0]]

    def run(self, at):
        """Each line's value with its derivatives, or the fault."""
        worked = []
        for place, line in enumerate(self.lines):
            kind = line[0]
            if kind == 0:
                slopes = [Fraction(int(k == line[1])) for k in range(self.n)]
                worked.append((at[line[1]], slopes))
            elif kind == 1:
                worked.append((Fraction(line[1], line[2]), [Fraction(0)] * self.n))
            elif kind == 6:
                a, da = worked[line[1]]
                worked.append((-a, [-x for x in da]))
            else:
                (a, da), (b, db) = worked[line[1]], worked[line[2]]
                both = list(zip(da, db))
                if kind == 2:
                    worked.append((a + b, [x + y for x, y in both]))
                elif kind == 3:
                    worked.append((a - b, [x - y for x, y in both]))
                elif kind == 4:
                    worked.append((a * b, [x * b + a * y for x, y in both]))
                elif b == 0:
                    return None, [1, place, 1]
                else:
                    worked.append((a / b, [(x * b - a * y) / (b * b) for x, y in both]))
            if weight(worked[-1][0]) > 2000:
                return None, [1, place, 2]
        return worked, None

    def here(self):
        if self.at is None:
            raise Refused(-4)
        worked, fault = self.run(self.at)
        if fault:
            raise Refused(-5)
        return [worked[out][0] for out in self.outs], [worked[out][1] for out in self.outs]

    def tell(self, head, values):
        if any(weight(value) > 6000 for value in values):
            raise Refused(-6)
        return head + [number for value in values for number in (value.numerator, value.denominator)]

    def code(self, n, numbers, outs):
        if n not in (1, 2, 3, 4):
            raise Refused(-1)
        lines = split_lines(numbers)
        if not 1 <= len(outs) <= 6 or any(out not in range(len(lines)) for out in outs):
            raise Refused(-2)
        if len(lines) > 60:
            raise Refused(-7)
        for place, line in enumerate(lines):
            if line[0] == 0 and line[1] >= n:
                raise Refused(-3)
            if line[0] > 1 and any(used >= place for used in line[1:]):
                raise Refused(-3)
        self.n, self.lines, self.outs, self.at = n, lines, list(outs), None
        return [len(lines)]

    def point(self, numbers):
        return self.become(fractions(numbers, self.n))

    def become(self, at):
        if any(weight(value) > 2000 for value in at):
            raise Refused(-6)
        self.at = at
        return self.run(at)[1] or [0]

    def results_at(self, at):
        """None with a fault."""
        worked, fault = self.run(at)
        return None if fault else [worked[out][0] for out in self.outs]

    def results(self):
        f, _ = self.here()
        return self.tell([len(f)], f + [squares(f)])

    def table(self):
        _, table = self.here()
        return self.tell([len(table), self.n], [x for row in table for x in row])

    def find_step(self, kind):
        """None if there's none."""
        f, table = self.here()
        if kind == 0:
            d, only, solvable = reduced([row + [-x] for row, x in zip(table, f)], self.n)
            return d if only and solvable else None
        equations = []
        for i in range(self.n):
            left = [sum((row[i] * row[j] for row in table), Fraction(0)) for j in range(self.n)]
            equations.append(left + [-sum((row[i] * x for row, x in zip(table, f)), Fraction(0))])
        d, _, solvable = reduced(equations, self.n)
        assert solvable
        return d

    def step(self, kind):
        if kind not in (0, 1):
            raise Refused(-1)
        f, table = self.here()
        d = self.find_step(kind)
        if d is None:
            return [0]
        picture = straight(f, table, d)
        return self.tell([1], d + picture + [squares(picture)])

    def take(self, kind, n, m):
        if kind not in (0, 1) or m < 1:
            raise Refused(-1)
        d = self.find_step(kind)
        if d is None:
            return [0]
        return [1] + self.become([x + Fraction(n, m) * y for x, y in zip(self.at, d)])

    def descend(self, kind, k):
        if kind not in (0, 1) or k not in range(21):
            raise Refused(-1)
        d = self.find_step(kind)
        if d is None:
            return [0]
        before = squares(self.results_at(self.at))
        for halvings in range(k + 1):
            tried = [x + y / 2 ** halvings for x, y in zip(self.at, d)]
            f = self.results_at(tried)
            if f is not None and squares(f) < before:
                answer = self.tell([2, halvings], [before, squares(f)])
                self.become(tried)
                return answer
        return [1]

    def error(self, numbers):
        d = fractions(numbers, self.n)
        f, table = self.here()
        there = self.results_at([x + y for x, y in zip(self.at, d)])
        if there is None:
            raise Refused(-5)
        return self.tell([len(f)], [x - y for x, y in zip(there, straight(f, table, d))])

    def halve(self, i, k, numbers):
        if i not in range(len(self.outs)) or k not in range(101):
            raise Refused(-1)
        a, b = fractions(numbers, 2)
        if self.n != 1:
            raise Refused(-8)
        at_a, at_b = self.results_at([a]), self.results_at([b])
        if at_a is None or at_b is None:
            return [0]
        if at_a[i] == 0:
            return self.tell([1], [a])
        if at_b[i] == 0:
            return self.tell([1], [b])
        if at_a[i] * at_b[i] > 0:
            return [0]
        for _ in range(k):
            middle = (a + b) / 2
            at_middle = self.results_at([middle])
            if at_middle is None:
                return [0]
            if at_middle[i] == 0:
                return self.tell([1], [middle])
            if at_middle[i] * at_a[i] > 0:
                a = middle
            else:
                b = middle
        return self.tell([2], [a, b])

    def round(self, b):
        if b not in range(201):
            raise Refused(-1)
        if self.at is None:
            raise Refused(-4)
        was = self.at
        self.become([Fraction(nearest_whole(x * 2 ** b), 2 ** b) for x in was])
        return self.tell([self.n], [x - y for x, y in zip(was, self.at)])


def nearest_whole(value):
    below = value.numerator // value.denominator
    return below if value - below < below + 1 - value else below + 1


def model_answers(parted_calls):
    """Each call is a list of its number, its whole numbers and its rows."""
    model = Model()
    given = []
    for parts in parted_calls:
        answer = model.call(parts)
        given += [len(answer)] + answer
    return given
