"""The spots and links of a thing of a charter."""

from ellwarden.worlds import GROUND


def thing_spots(name, many, days):
    """The spots of a thing with so many stretches, in order."""
    return [(name, stretch, day) for stretch in range(many) for day in range(days)]


def thing_links(name, many, days, bounds):
    """The links of a thing with so many stretches, in order; bounds has least, greatest, fall,
    rise and steep."""
    least, greatest, fall, rise, steep = bounds
    links = []
    for spot in thing_spots(name, many, days):
        _, stretch, day = spot
        links.append((GROUND, spot, greatest, ("range", name)))
        links.append((spot, GROUND, -least, ("range", name)))
        if day + 1 < days:
            later = (name, stretch, day + 1)
            links.append((spot, later, rise, ("drift", name)))
            links.append((later, spot, fall, ("drift", name)))
        if stretch + 1 < many:
            beside = (name, stretch + 1, day)
            links.append((spot, beside, steep, ("steep", name)))
            links.append((beside, spot, steep, ("steep", name)))
    return links
