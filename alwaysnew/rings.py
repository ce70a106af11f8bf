"""Rings: readings that lead back to where they began."""


def ring_behind(place, onward):
    """Go from place to place until one comes again; return it, the reading to it, and the ring from it to itself.

    onward takes a place, and returns the next one and the reading to it.
    """
    reading = ()
    lengths = {}
    while place not in lengths:
        lengths[place] = len(reading)
        place, way = onward(place)
        reading = (*reading, *way)
    return (place, reading[:lengths[place]], reading[lengths[place]:])
