"""The document's words taken one by one, with Python's own fractions: slow, plain, apart from the package."""

from fractions import Fraction

LENGTHS = {0: 2, 1: 3, 2: 3, 3: 3, 4: 3, 5: 3, 6: 2}


class Refused(Exception):
    pass


def digits(number):
    return 0 if number == 0 else len(format(number, "b"))


def weight(value):
    return digits(abs(value.numerator)) + digits(value.denominator)


def split_lines(numbers):
    rest = list(numbers)
    lines = []
    while rest:
        length = LENGTHS.get(rest[0])
        if length is None or len(rest) < length:
            raise Refused(-2)
        line, rest = rest[:length], rest[length:]
        if line[0] == 1 and line[2] < 1 or line[0] != 1 and min(line[1:]) < 0:
            raise Refused(-2)
        lines.append(line)
    return lines


def reduced(rows, columns):
    """The document's way to bring equations into steps; gives the solution with 0 where it's free."""
    rows = [list(row) for row in rows]
    taken = 0
    lead_of = {}
    for column in range(columns):
        for place in range(taken, len(rows)):
            if rows[place][column] != 0:
                break
        else:
            continue
        rows[taken], rows[place] = rows[place], rows[taken]
        rows[taken] = [number / rows[taken][column] for number in rows[taken]]
        for other in range(len(rows)):
            if other != taken:
                often = rows[other][column]
                rows[other] = [a - often * b for a, b in zip(rows[other], rows[taken])]
        lead_of[column] = taken
        taken += 1
    solution = [rows[lead_of[c]][columns] if c in lead_of else Fraction(0) for c in range(columns)]
    solvable = all(row[columns] == 0 for row in rows[taken:])
    return solution, len(lead_of) == columns, solvable


class Model:
    def __init__(self):
        self.n, self.lines, self.outs, self.at = 0, [], [], None

    def call(self, parts):
        names = ("code", "point", "results", "table", "step")
        try:
            return getattr(self, names[parts[0]])(*parts[1:])
        except Refused as refused:
            return [refused.args[0]]

    def run(self):
        """Each line's value with its derivatives, or the fault."""
        worked = []
        for place, line in enumerate(self.lines):
            kind = line[0]
            if kind == 0:
                slopes = [Fraction(int(k == line[1])) for k in range(self.n)]
                worked.append((self.at[line[1]], slopes))
            elif kind == 1:
                worked.append((Fraction(line[1], line[2]), [Fraction(0)] * self.n))
            elif kind == 6:
                a, da = worked[line[1]]
                worked.append((-a, [-x for x in da]))
            else:
                (a, da), (b, db) = worked[line[1]], worked[line[2]]
                both = list(zip(da, db))
                if kind == 2:
                    worked.append((a + b, [x + y for x, y in both]))
                elif kind == 3:
                    worked.append((a - b, [x - y for x, y in both]))
                elif kind == 4:
                    worked.append((a * b, [x * b + a * y for x, y in both]))
                elif b == 0:
                    return None, [1, place, 1]
                else:
                    worked.append((a / b, [(x * b - a * y) / (b * b) for x, y in both]))
            if weight(worked[-1][0]) > 2000:
                return None, [1, place, 2]
        return worked, None

    def here(self):
        if self.at is None:
            raise Refused(-4)
        worked, fault = self.run()
        if fault:
            raise Refused(-5)
        return [worked[out][0] for out in self.outs], [worked[out][1] for out in self.outs]

    def tell(self, head, fractions):
        if any(weight(value) > 6000 for value in fractions):
            raise Refused(-6)
        return head + [number for value in fractions for number in (value.numerator, value.denominator)]

    def code(self, n, numbers, outs):
        if n not in (1, 2, 3, 4):
            raise Refused(-1)
        lines = split_lines(numbers)
        if not 1 <= len(outs) <= 6 or any(out not in range(len(lines)) for out in outs):
            raise Refused(-2)
        if len(lines) > 60:
            raise Refused(-7)
        for place, line in enumerate(lines):
            if line[0] == 0 and line[1] >= n:
                raise Refused(-3)
            if line[0] > 1 and any(used >= place for used in line[1:]):
                raise Refused(-3)
        self.n, self.lines, self.outs, self.at = n, lines, list(outs), None
        return [len(lines)]

    def point(self, numbers):
        if len(numbers) != 2 * self.n or any(bottom < 1 for bottom in numbers[1::2]):
            raise Refused(-2)
        taken = [Fraction(top, bottom) for top, bottom in zip(numbers[::2], numbers[1::2])]
        if any(weight(value) > 2000 for value in taken):
            raise Refused(-6)
        self.at = taken
        return self.run()[1] or [0]

    def results(self):
        f, _ = self.here()
        return self.tell([len(f)], f + [sum((x * x for x in f), Fraction(0))])

    def table(self):
        _, table = self.here()
        return self.tell([len(table), self.n], [x for row in table for x in row])

    def step(self, kind):
        if kind not in (0, 1):
            raise Refused(-1)
        f, table = self.here()
        if kind == 0:
            d, only, solvable = reduced([row + [-x] for row, x in zip(table, f)], self.n)
            if not (only and solvable):
                return [0]
        else:
            equations = []
            for i in range(self.n):
                left = [sum((row[i] * row[j] for row in table), Fraction(0)) for j in range(self.n)]
                equations.append(left + [-sum((row[i] * x for row, x in zip(table, f)), Fraction(0))])
            d, _, solvable = reduced(equations, self.n)
            assert solvable
        picture = [x + sum((a * b for a, b in zip(row, d)), Fraction(0)) for row, x in zip(table, f)]
        return self.tell([1], d + picture + [sum((x * x for x in picture), Fraction(0))])


def model_answers(parted_calls):
    """Each call is a list of its number, its whole numbers and its rows."""
    model = Model()
    given = []
    for parts in parted_calls:
        answer = model.call(parts)
        given += [len(answer)] + answer
    return given
