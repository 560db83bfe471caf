"""Rings of cases one after another, where each one that was found is put an end to before the next one."""


def rings_in_turn(case_with, places_of):
    """Return the rings that are found with no places, and then with all places of the rings so far.

    `case_with` makes the case with a list of places, `places_of` tells the places that put an end to a ring.
    """
    rings = []
    places = []
    ring = case_with(places).ring()
    while ring is not None:
        rings.append(ring)
        places = places + places_of(ring)
        ring = case_with(places).ring()
    return rings


def places_across(log, link):
    """Return the places of the answers of the link's stretch behind its earlier answer, up to its later one."""
    early = min(link)
    late = max(link)
    return [place for place in log.stretch_of(early) if early < place <= late]
