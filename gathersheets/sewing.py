"""Where thread lies in sewn sections, and how long it is."""


def all_along(sections, stations):
    """For each section the lower stations between which thread lies, if each is sewn all along."""
    return (tuple(range(stations - 1)),) * sections


def two_on(sections, stations):
    """For each section the lower stations between which thread lies, if they are sewn in pairs."""
    pair = (tuple(range(0, stations - 1, 2)), tuple(range(1, stations - 1, 2)))
    return pair * (sections // 2) + all_along(sections % 2, stations)


def thread_length(sewn, places, rise):
    """How long the thread is in sections and from each one to the next."""
    within = sum([places[lower + 1] - places[lower] for section in sewn for lower in section])
    return within + rise * max(0, len(sewn) - 1)
