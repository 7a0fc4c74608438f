"""Finds: which stretches of a text's row fit a pattern."""

SURELY = 1
NO_END = -1
MOST_FOLLOWING = 16


# For each place of the row the atoms that some sign of it is of, for each break None.
# What a sure find can't go over is as a place whose sign no atom takes.
def atoms_along(how, row, fitter):
    along = []
    for numbers in row:
        if how == SURELY and (numbers is None or len(numbers) != 1):
            along.append(0)
        elif numbers is None:
            along.append(None)
        else:
            along.append(fitter.atoms_of_some(numbers))
    return along


# What a place or a break of the row counts where finds are put in order.
def weight_of(numbers):
    if numbers is None or numbers == []:
        return 0
    return numbers[0] + 1


# places: for each place where it stands in the row.
class Search:
    def __init__(self, how, row, fitter):
        self.row = row
        self.places = [at for at, numbers in enumerate(row) if numbers is not None]
        self.along = atoms_along(how, row, fitter)
        self.fitter = fitter

    # Only behind a place is it asked whether the pattern is fitted: a stretch has no break behind its last place.
    def least_end(self, start):
        states = self.fitter.first_states()
        end = start
        for fitting in self.along[self.places[start]:]:
            if fitting is None:
                states = self.fitter.over_break(states)
            else:
                states = self.fitter.over_sign(states, fitting)
                if states == 0:
                    return NO_END
                if self.fitter.is_through(states):
                    return end
                end += 1
        return NO_END

    # None if no find starts at this place or behind.
    def first_find(self, start):
        for place in range(start, len(self.places)):
            end = self.least_end(place)
            if end != NO_END:
                return (place, end)
        return None

    def all_finds(self):
        finds = []
        for start in range(len(self.places)):
            end = self.least_end(start)
            if end != NO_END:
                finds.append((start, end))
        return finds

    def following(self, end):
        first = self.places[end] + 1
        return [weight_of(numbers) for numbers in self.row[first:first + MOST_FOLLOWING]]

    # Lists are in order as what follows is: by the first that differs, and what ends before the other stands first.
    def finds_in_order(self):
        return sorted(self.all_finds(), key=lambda find: (self.following(find[1]), find[0]))
