"""Who keeps whom in a photo, by which way, and how much."""

from whokeeps.pictures import Picture


def way(photo, number):
    """The first one of the shortest ways to a thing: a name, then parts, as texts."""
    picture = Picture(photo)
    picture.check_thing(number)
    found = picture.arrivals(None)
    backwards = []
    ahead = number
    while ahead is not None:
        ahead, part = found[ahead]
        backwards.append(part)
    return backwards[::-1]


def keeps(photo, number):
    """The numbers, rising, of all that can't be come to without a thing, with its own."""
    picture = Picture(photo)
    picture.check_thing(number)
    return picture.kept_by(number)


def total(photo, number):
    """The sum of the sizes of what a thing keeps."""
    picture = Picture(photo)
    picture.check_thing(number)
    return picture.total_of(number)


def masters(photo):
    """(number, master) of all things, rising; None where no other thing keeps it."""
    picture = Picture(photo)
    kept = {number: picture.kept_by(number) for number in picture.links}
    nearest = {number: None for number in kept}
    # Who keeps a keeper keeps more than it does, so of the keepers of a thing the nearest one comes last.
    for keeper in sorted(kept, key=lambda one: -len(kept[one])):
        for number in kept[keeper]:
            if number != keeper:
                nearest[number] = keeper
    return [(number, nearest[number]) for number in nearest]


def totals(photo):
    """(number, total) of all things, rising."""
    picture = Picture(photo)
    return [(number, picture.total_of(number)) for number in picture.links]
