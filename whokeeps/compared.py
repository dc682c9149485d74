"""Photos beside one another: what is new, gone and grown, and where it leaks."""

from whokeeps.deeds import check_program, is_within
from whokeeps.errors import BadPhotos, BadTimes
from whokeeps.keepers import keeps, totals
from whokeeps.plain import Plain

LEAST_PHOTOS = 2
MOST_PHOTOS = 8


def compared(before, after):
    """(new, gone, grown): numbers in the second photo alone, in the first alone, and (number, by how much)."""
    earlier = dict(totals(before))
    later = dict(totals(after))
    new = [number for number in later if number not in earlier]
    gone = [number for number in earlier if number not in later]
    both = [number for number in later if number in earlier]
    grown = [(number, later[number] - earlier[number]) for number in both if later[number] > earlier[number]]
    return (new, gone, grown)


def do_all(plain, program):
    """Does all deeds of a program."""
    for deed in program:
        plain.do(deed)


def growing(first, again, many):
    """So many photos of one heap: the second program is run that often behind the first, a photo behind each time."""
    check_program(first)
    check_program(again)
    if not is_within(many, LEAST_PHOTOS, MOST_PHOTOS):
        raise BadTimes("a program is run again 2 to 8 times")
    plain = Plain()
    do_all(plain, first)
    photos = []
    for _ in range(many):
        do_all(plain, again)
        photos.append(plain.photo())
    return photos


def grows(number, tables):
    """Whether a thing is in all these tables of totals, and its total grows from each to the next."""
    if not all([number in table for table in tables]):
        return False
    sums = [table[number] for table in tables]
    return all([less < more for less, more in zip(sums, sums[1:])])


def keeps_another(photo, number, among):
    """Whether a thing keeps one of these besides itself."""
    return any([kept in among for kept in keeps(photo, number) if kept != number])


def leak(photos):
    """The numbers, rising, of what grows from photo to photo and keeps, in the last, nothing else that does."""
    if not is_within(len(photos), LEAST_PHOTOS, MOST_PHOTOS):
        raise BadPhotos("a leak shows in 2 to 8 photos")
    tables = [dict(totals(photo)) for photo in photos]
    grown = {number: True for number in tables[-1] if grows(number, tables)}
    return [number for number in grown if not keeps_another(photos[-1], number, grown)]
