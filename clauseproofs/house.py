"""The house's proof that not all claims can hold."""

from clauseproofs.clauses import clause_of, is_broken, opposites, put_together
from clauseproofs.differences import reason_of
from clauseproofs.ways import AS_CLAIM, BY_BOUNDS, BY_JOINING, Line


class Proof:
    # It writes into lines of its own, so that a proof that is refused leaves the book as it was.

    def __init__(self, atoms, u, lines, next_number):
        self.atoms = atoms
        self.u = u
        self.lines = dict(lines)
        self.next_number = next_number
        self.claims = [number for number in lines if lines[number].way == AS_CLAIM]
        self.first_with = {}
        for number, line in lines.items():
            self.first_with.setdefault(line.clause, number)

    def line_found(self, so):
        """The number of the line by which these literals can't be so; None if there is a world in which they are."""
        for number in self.claims:
            if is_broken(self.lines[number].clause, so):
                return number
        reason = reason_of(self.atoms, self.u, so)
        if reason is not None:
            return self.line_for(BY_BOUNDS, (), clause_of(opposites(reason)))
        if len(so) == len(self.atoms):
            return None
        return self.line_of_both(so, len(so) + 1)

    def line_of_both(self, so, atom):
        first = self.line_found(so + [-atom])
        if first is None or atom not in self.lines[first].clause:
            return first
        second = self.line_found(so + [atom])
        if second is None or -atom not in self.lines[second].clause:
            return second
        clause = put_together(self.lines[first].clause, self.lines[second].clause, atom)
        return self.line_for(BY_JOINING, (first, second, atom), clause)

    def line_for(self, way, named, clause):
        if clause not in self.first_with:
            self.first_with[clause] = self.next_number
            self.lines[self.next_number] = Line(way, named, clause)
            self.next_number = self.next_number + 1
        return self.first_with[clause]
