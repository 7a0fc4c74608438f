"""What fits a pattern, found by going over a row of signs once.

States are sets of how many atoms the row so far may have been parted into, as whole numbers: bit x for the first x
atoms. Sets of atoms are whole numbers, too: bit x for atom x.
"""

from signsearch.members import signs_of
from signsearch.patterns import RUN


# A `..` beside another takes no more than that one; so past a `..` there's always an atom of another kind or the end.
def without_needless_runs(atoms):
    needed = []
    for atom in atoms:
        if needed == [] or atom.kind != RUN or needed[-1].kind != RUN:
            needed.append(atom)
    return needed


# runs: the `..`; fillable: those that some sign is of; atoms_of: for each sign those that it's of; through: all fitted.
class Fitter:
    def __init__(self, atoms, signs):
        self.runs = 0
        self.fillable = 0
        self.atoms_of = [0] * len(signs)
        self.through = 1
        for atom in without_needless_runs(atoms):
            self.add_atom(atom, signs)

    def add_atom(self, atom, signs):
        bit = self.through
        numbers = list(range(len(signs))) if atom.kind == RUN else signs_of(atom, signs)
        if atom.kind == RUN:
            self.runs |= bit
        if numbers != []:
            self.fillable |= bit
        for number in numbers:
            self.atoms_of[number] |= bit
        self.through = bit << 1

    def past_runs(self, states):
        return states | ((states & self.runs) << 1)

    def first_states(self):
        return self.past_runs(1)

    # fitting: the atoms that one sign, or some sign of a place, is of.
    def over_sign(self, states, fitting):
        taken = states & fitting
        return self.past_runs((taken << 1) | (taken & self.runs))

    # A break may have been any signs, so also those that the next atoms ask for.
    def over_break(self, states):
        wider = states | ((states & self.fillable) << 1)
        while wider != states:
            states = wider
            wider = states | ((states & self.fillable) << 1)
        return states

    def is_through(self, states):
        return (states & self.through) != 0

    def atoms_of_some(self, numbers):
        fitting = 0
        for number in numbers:
            fitting |= self.atoms_of[number]
        return fitting


def row_fits(r, fitter):
    states = fitter.first_states()
    for number in r:
        states = fitter.over_sign(states, fitter.atoms_of[number])
    return fitter.is_through(states)
