"""Who's ahead, in the contest itself and by a jump-off."""


def standing(athlete, rounds):
    """A tuple that's less for who's ahead, and the same for those who are alike.

    rounds is how many rounds of a jump-off they've come through, 0 without one. It stands last, as a
    jump-off tells only those apart who are alike by all else.
    """
    best = athlete.greatest_cleared()
    return (-best, athlete.failures_at(best), athlete.failures_up_to(best), -rounds)


def placed(standings):
    """Of a dict of standings by number, in order (alike ones by their numbers): the number and the place."""
    told = []
    for number in sorted(standings, key=lambda ranked: (standings[ranked], ranked)):
        ahead = [other for other in standings if standings[other] < standings[number]]
        told.append((number, len(ahead) + 1))
    return told
