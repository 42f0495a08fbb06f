"""Where passes lead from closed set to closed set, and what it costs at the mosts."""

from rowhaul.merges.costs import Merges
from rowhaul.plans.passes import fixed_in, is_pass_in, quarters_in
from rowhaul.plans.schemes import Scheme, is_driver
from rowhaul.plans.sizes import MOST_QUARTERS, has_its_fans, has_its_size
from rowhaul.plans.words import files_words, part_words
from rowhaul.plans.ways import all_ways
from rowhaul.search.sets import closed_in


class Leads:
    """The closed sets of a program by ways, and the passes that lead from one to another."""

    def __init__(self, scheme):
        self._scheme = scheme
        self.sets = closed_in(scheme)
        self.whole = self.sets.index(scheme.parts)
        self._passes = {}
        self.leads = self._all_leads()

    def _all_leads(self):
        """Each set, one that a pass leads to from it, and the pass; lesser sets first."""
        by_size = sorted([(len(one), place) for place, one in enumerate(self.sets)])
        told = []
        for _, place in by_size:
            for behind, more in enumerate(self.sets):
                one = tuple([part for part in more if part not in self.sets[place]])
                if len(one) + len(self.sets[place]) == len(more) and self._is_lead(one):
                    told.append((place, behind, one))
        return told

    def _is_lead(self, one):
        """Is it a pass that fits in some room? What is found is kept, as many sets differ by just these parts."""
        if one not in self._passes:
            told = None
            # At most one driver: that is asked first, as few others are a pass then.
            if len([part for part in one if is_driver(part)]) <= 1 and is_pass_in(self._scheme, one):
                if quarters_in(self._scheme, one) <= MOST_QUARTERS:
                    told = (fixed_in(self._scheme, one), files_words(self._scheme, one, self._scheme.mosts))
            self._passes[one] = told
        return self._passes[one] is not None

    def is_set(self, thing):
        """Is it a tuple of parts?"""
        return isinstance(thing, tuple) and all([self._scheme.is_part(part) for part in thing])

    def fitting(self, quarter):
        """The leads by a pass that fits in a room of this quarter."""
        fit = {}
        for part in self._scheme.parts:
            fit[part] = has_its_size(self._scheme, quarter, part) and has_its_fans(self._scheme, quarter, part)
        told = []
        for place, behind, one in self.leads:
            if self._passes[one][0] <= quarter and all([fit[part] for part in one]):
                told.append((place, behind, one))
        return told

    def priced(self, quarter, merges):
        """The leads by a pass that fits in a room of this quarter, each with the pass's words at the mosts."""
        costs = {}
        told = []
        for place, behind, one in self.fitting(quarter):
            for part in one:
                if part not in costs:
                    costs[part] = part_words(self._scheme, quarter, part, self._scheme.mosts, merges)
            told.append((place, behind, one, self._passes[one][1] + sum([costs[part] for part in one])))
        return told


class Search:
    """All ways of a program, each with its leads. What is no program is refused, then what is too wide."""

    def __init__(self, program):
        self.program = program
        self.ways = all_ways(program)
        self._leads = [Leads(Scheme(program, ways)) for ways in self.ways]
        self._merges = Merges()

    def leads_by_ways(self):
        """The leads by each ways, in order."""
        return list(self._leads)

    def priced_by_ways(self, quarter):
        """The leads that fit in a room of this quarter, with their words, by each ways."""
        return [leads.priced(quarter, self._merges) for leads in self._leads]

    def has_plan(self, quarter):
        """Is there a plan in a room of this quarter?"""
        return any([_comes_whole(leads, quarter) for leads in self._leads])


def _comes_whole(leads, quarter):
    """Is the set of all parts come to? Lesser sets are left first, so each is come to ahead of that."""
    come_to = {0: True}
    for place, behind, _ in leads.fitting(quarter):
        if place in come_to:
            come_to[behind] = True
    return leads.whole in come_to
