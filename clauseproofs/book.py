"""One book of atoms and lines, and the calls on it."""

from clauseproofs.calls import START, YES, BOUND, CLAIM, BOUNDS, JOINED, WIDER, CHAIN, split_calls
from clauseproofs.clauses import clause_of, is_loose
from clauseproofs.differences import QUESTION
from clauseproofs.ways import AS_CLAIM, BY_BOUNDS, BY_JOINING, BY_WIDENING, BY_CHAIN, Line, is_shown

FIRST_U = 3
MOST_U = 4
MOST_APART = 1000
MOST_ATOMS = 8
MOST_LINES = 300
MOST_CLAIMS = 16

WRONG = -1
NO_ATOM = -2
NO_LINE = -3
FULL = -5
NOT_SHOWN = -6


class Book:
    # The lines stand by their numbers, rising, so that each one's sources stand ahead of it.

    def __init__(self):
        self.begin(FIRST_U)

    def begin(self, u):
        self.u = u
        self.atoms = []
        self.lines = {}
        self.next_number = 1

    def start(self, u):
        if u < 1 or u > MOST_U:
            return WRONG
        self.begin(u)
        return u

    def yes(self):
        return self.add_atom(QUESTION)

    def bound(self, a, b, c):
        if a > self.u or b > self.u or a == b or abs(c) > MOST_APART:
            return WRONG
        return self.add_atom((a, b, c))

    def claim(self, literals):
        if self.has_strange(literals):
            return NO_ATOM
        clause = clause_of(literals)
        if is_loose(clause):
            return WRONG
        if self.count_claims() == MOST_CLAIMS:
            return FULL
        return self.add_line(Line(AS_CLAIM, (), clause))

    def bounds(self, literals):
        return self.derive(BY_BOUNDS, (), literals)

    def joined(self, i, j, a, literals):
        return self.derive(BY_JOINING, (i, j, a), literals)

    def wider(self, i, literals):
        return self.derive(BY_WIDENING, (i,), literals)

    def chain(self, lines, literals):
        return self.derive(BY_CHAIN, tuple(lines), literals)

    def drop(self, k):
        if k not in self.lines:
            return NO_LINE
        if self.lines[k].way != AS_CLAIM:
            return WRONG
        gone = self.resting_on(k)
        for number in gone:
            self.lines.pop(number)
        return len(gone)

    def derive(self, way, named, literals):
        if self.has_strange(literals):
            return NO_ATOM
        line = Line(way, named, clause_of(literals))
        if any([source not in self.lines for source in line.sources()]):
            return NO_LINE
        sources = [self.lines[source].clause for source in line.sources()]
        if not is_shown(line, sources, self.atoms, self.u):
            return NOT_SHOWN
        return self.add_line(line)

    def add_atom(self, atom):
        if len(self.atoms) == MOST_ATOMS:
            return FULL
        self.atoms.append(atom)
        return len(self.atoms)

    def add_line(self, line):
        if len(self.lines) == MOST_LINES:
            return FULL
        number = self.next_number
        self.lines[number] = line
        self.next_number = number + 1
        return number

    def has_strange(self, literals):
        """Whether one of them is a literal of no atom."""
        return any([literal == 0 or abs(literal) > len(self.atoms) for literal in literals])

    def count_claims(self):
        return len([line for line in self.lines.values() if line.way == AS_CLAIM])

    def resting_on(self, k):
        """The claim k and all lines that rest on it, rising."""
        resting = [k]
        for number, line in self.lines.items():
            if any([source in resting for source in line.sources()]):
                resting.append(number)
        return resting


def answer_of(book, call):
    """Each of these calls answers one number."""
    numbers = call.numbers
    rows = call.rows
    if call.number == START:
        return book.start(numbers[0])
    if call.number == YES:
        return book.yes()
    if call.number == BOUND:
        return book.bound(numbers[0], numbers[1], numbers[2])
    if call.number == CLAIM:
        return book.claim(rows[0])
    if call.number == BOUNDS:
        return book.bounds(rows[0])
    if call.number == JOINED:
        return book.joined(numbers[0], numbers[1], numbers[2], rows[0])
    if call.number == WIDER:
        return book.wider(numbers[0], rows[0])
    if call.number == CHAIN:
        return book.chain(rows[0], rows[1])
    # No other call is handed in: what is left is 8, drop.
    return book.drop(numbers[0])


def answers(calls):
    """For each call how many numbers are answered, then these."""
    book = Book()
    given = []
    for call in split_calls(calls):
        answer = [answer_of(book, call)]
        given.append(len(answer))
        given.extend(answer)
    return given
