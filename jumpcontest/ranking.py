"""Who's ahead in the contest itself."""


def standing(athlete):
    """A tuple that's less for who's ahead, and the same for those who are alike."""
    best = athlete.greatest_cleared()
    return (-best, athlete.failures_at(best), athlete.failures_up_to(best))


def first_ones(athletes):
    """The numbers of those who are first, rising; nobody, if no height has been cleared."""
    ranked = [number for number in range(len(athletes)) if athletes[number].greatest_cleared() > 0]
    if len(ranked) == 0:
        return []
    best = min([standing(athletes[number]) for number in ranked])
    return [number for number in ranked if standing(athletes[number]) == best]
