"""One book of atoms and lines, and the calls on it."""

from clauseproofs.calls import START, YES, BOUND, CLAIM, BOUNDS, JOINED, WIDER, CHAIN, DROP, MARK
from clauseproofs.calls import BACK, DECIDE, PROVE, SHOW, RESTS, CAME, JUDGE, split_calls
from clauseproofs.clauses import clause_of, is_loose
from clauseproofs.differences import QUESTION, reason_of
from clauseproofs.house import Proof
from clauseproofs.judge import count_right, split_steps
from clauseproofs.ways import AS_CLAIM, BY_BOUNDS, BY_JOINING, BY_WIDENING, BY_CHAIN, Line, is_shown
from clauseproofs.worlds import first_world

FIRST_U = 3
MOST_U = 4
MOST_APART = 1000
MOST_ATOMS = 8
MOST_LINES = 300
MOST_CLAIMS = 16
MOST_MARKS = 8
MOST_TO_REASON = 8

WRONG = -1
NO_ATOM = -2
NO_LINE = -3
FULL = -5
NOT_SHOWN = -6
NO_MARK = -7
HAS_WORLD = -8


class Mark:
    def __init__(self, atoms, lines, next_number):
        self.atoms = list(atoms)
        self.lines = dict(lines)
        self.next_number = next_number


class Book:
    # The lines stand by their numbers, rising, so that each one's sources stand ahead of it.

    def __init__(self):
        self.begin(FIRST_U)

    def begin(self, u):
        self.u = u
        self.atoms = []
        self.lines = {}
        self.next_number = 1
        self.marks = []

    def start(self, u):
        if u < 1 or u > MOST_U:
            return WRONG
        self.begin(u)
        return u

    def yes(self):
        return self.add_atom(QUESTION)

    def bound(self, a, b, c):
        if a > self.u or b > self.u or a == b or abs(c) > MOST_APART:
            return WRONG
        return self.add_atom((a, b, c))

    def claim(self, literals):
        if self.has_strange(literals):
            return NO_ATOM
        clause = clause_of(literals)
        if is_loose(clause):
            return WRONG
        if len(self.claims_among(self.lines)) >= MOST_CLAIMS:
            return FULL
        return self.add_line(Line(AS_CLAIM, (), clause))

    def bounds(self, literals):
        return self.derive(BY_BOUNDS, (), literals)

    def joined(self, i, j, a, literals):
        return self.derive(BY_JOINING, (i, j, a), literals)

    def wider(self, i, literals):
        return self.derive(BY_WIDENING, (i,), literals)

    def chain(self, lines, literals):
        return self.derive(BY_CHAIN, tuple(lines), literals)

    def drop(self, k):
        if k not in self.lines:
            return NO_LINE
        if self.lines[k].way != AS_CLAIM:
            return WRONG
        gone = self.resting_on(k)
        for number in gone:
            self.lines.pop(number)
        return len(gone)

    def mark(self):
        if len(self.marks) >= MOST_MARKS:
            return FULL
        self.marks.append(Mark(self.atoms, self.lines, self.next_number))
        return len(self.marks)

    def back(self):
        if len(self.marks) == 0:
            return [NO_MARK]
        mark = self.marks.pop()
        since = [(number, line) for number, line in self.lines.items() if number >= mark.next_number]
        self.atoms = mark.atoms
        self.lines = mark.lines
        at_mark = len(self.lines)
        for number, line in since:
            if self.can_stay(line):
                self.lines[number] = line
        return [len(self.lines), len(self.lines) - at_mark]

    def decide(self):
        clauses = [self.lines[number].clause for number in self.claims_among(self.lines)]
        world = first_world(self.atoms, self.u, clauses)
        if world is None:
            return [0]
        row = [1 if literal > 0 else 0 for literal in world[0]]
        return [1] + counted(row) + counted(world[1])

    def prove(self):
        proof = Proof(self.atoms, self.u, self.lines, self.next_number)
        found = proof.line_found([])
        if found is None:
            return [HAS_WORLD]
        if len(proof.lines) > MOST_LINES:
            return [FULL]
        fresh = proof.next_number - self.next_number
        self.lines = proof.lines
        self.next_number = proof.next_number
        return [found, fresh]

    def show(self, k):
        if k not in self.lines:
            return [NO_LINE]
        line = self.lines[k]
        return [line.way] + counted(line.named) + counted(line.clause)

    def rests(self, k):
        if k not in self.lines:
            return [NO_LINE]
        return counted(self.claims_among(self.ancestry(k)))

    def came(self, k):
        if k not in self.lines:
            return [NO_LINE]
        return counted(self.ancestry(k))

    def judge(self, steps):
        lines = split_steps(steps)
        if any([self.has_strange(line.clause) for line in lines]):
            return [NO_ATOM]
        right = count_right(lines, self.lines, self.next_number, self.atoms, self.u)
        if right < len(lines):
            return [0, right]
        return [1, 1 if len(lines) > 0 and len(lines[-1].clause) == 0 else 0]

    def reason(self, literals):
        if self.has_strange(literals):
            return [NO_ATOM]
        if len(literals) > MOST_TO_REASON:
            return [WRONG]
        found = reason_of(self.atoms, self.u, literals)
        if found is None:
            return [0]
        return [1] + counted(found)

    def derive(self, way, named, literals):
        if self.has_strange(literals):
            return NO_ATOM
        line = Line(way, named, clause_of(literals))
        if not self.has_all(line.sources()):
            return NO_LINE
        if not is_shown(line, self.lines, self.atoms, self.u):
            return NOT_SHOWN
        return self.add_line(line)

    def add_atom(self, atom):
        if len(self.atoms) >= MOST_ATOMS:
            return FULL
        self.atoms.append(atom)
        return len(self.atoms)

    def add_line(self, line):
        # Behind back there may be more lines than may be written.
        if len(self.lines) >= MOST_LINES:
            return FULL
        number = self.next_number
        self.lines[number] = line
        self.next_number = number + 1
        return number

    def has_strange(self, literals):
        """Whether one of them is a literal of no atom."""
        return any([literal == 0 or abs(literal) > len(self.atoms) for literal in literals])

    def has_all(self, numbers):
        return all([number in self.lines for number in numbers])

    def claims_among(self, numbers):
        return [number for number in numbers if self.lines[number].way == AS_CLAIM]

    def can_stay(self, line):
        """Whether a line that came since a mark holds by the atoms and lines that there are behind it."""
        if line.way == AS_CLAIM or self.has_strange(line.clause):
            return False
        if line.way == BY_JOINING and self.has_strange(line.named[2:]):
            return False
        return self.has_all(line.sources())

    def resting_on(self, k):
        """The claim k and all lines that rest on it, rising."""
        resting = [k]
        for number, line in self.lines.items():
            if any([source in resting for source in line.sources()]):
                resting.append(number)
        return resting

    def ancestry(self, k):
        """The lines that line k came of, rising."""
        found = {k: True}
        for number in reversed(list(self.lines)):
            if number in found:
                for source in self.lines[number].sources():
                    found[source] = True
        return sorted(found)


def counted(numbers):
    return [len(numbers)] + list(numbers)


def one_number(book, call):
    """What is answered to a call that answers one number always."""
    numbers = call.numbers
    rows = call.rows
    if call.number == START:
        return book.start(numbers[0])
    if call.number == YES:
        return book.yes()
    if call.number == BOUND:
        return book.bound(numbers[0], numbers[1], numbers[2])
    if call.number == CLAIM:
        return book.claim(rows[0])
    if call.number == BOUNDS:
        return book.bounds(rows[0])
    if call.number == JOINED:
        return book.joined(numbers[0], numbers[1], numbers[2], rows[0])
    if call.number == WIDER:
        return book.wider(numbers[0], rows[0])
    if call.number == CHAIN:
        return book.chain(rows[0], rows[1])
    if call.number == DROP:
        return book.drop(numbers[0])
    return book.mark()


def answer_of(book, call):
    if call.number <= MARK:
        return [one_number(book, call)]
    if call.number == BACK:
        return book.back()
    if call.number == DECIDE:
        return book.decide()
    if call.number == PROVE:
        return book.prove()
    if call.number == SHOW:
        return book.show(call.numbers[0])
    if call.number == RESTS:
        return book.rests(call.numbers[0])
    if call.number == CAME:
        return book.came(call.numbers[0])
    if call.number == JUDGE:
        return book.judge(call.rows[0])
    # No other call is handed in: what is left is 17, reason.
    return book.reason(call.rows[0])


def answers(calls):
    """For each call how many numbers are answered, then these."""
    book = Book()
    given = []
    for call in split_calls(calls):
        given.extend(counted(answer_of(book, call)))
    return given
