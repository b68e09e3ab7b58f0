"""Runs of places that stand directly behind each other."""


def runs_of(places):
    """The runs of ascending places, pairs of a first place and a count, each as long as it can be."""
    runs = []
    for place in places:
        if runs and place == runs[-1][0] + runs[-1][1]:
            runs[-1] = (runs[-1][0], runs[-1][1] + 1)
        else:
            runs.append((place, 1))
    return runs
