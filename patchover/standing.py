"""Devices and shops, made of the parts of their images, if such a one can stand."""

from patchover.carrying import as_done, lightest
from patchover.customers import Customer
from patchover.devices import Work, amid, resting
from patchover.errors import Around, BadImage, BadMarks, BadName, BadPatch, PatchError
from patchover.hanging import order
from patchover.patches import done
from patchover.pieces import MOST, check_edition, check_patch, check_reach
from patchover.shops import opened


def device_from(parts):
    """Tell the device of an image's parts."""
    cells, wear, places_worn, asleep, many, work, check = parts
    if many > MOST:
        raise BadImage(check)
    device = resting(cells, wear, places_worn, many)
    if work is not None:
        try:
            device = at_work(device, work, asleep)
        except PatchError:
            raise BadImage(check) from None
    if asleep:
        device.cut()
    return device


def at_work(device, parts, asleep):
    """Tell a device like this one, by which a patch is under way."""
    before, patch, steps_done, part, places = parts
    check_edition(before)
    check_patch(patch)
    check_reach(patch, before)
    # What has no order can't be under way, and what has no steps is done at once.
    if not order(patch):
        raise BadPatch(0)
    work = Work(before, patch)
    marks = [mark if whole else None for whole, mark in places]
    if [mark for whole, mark in places if not whole and mark != 0]:
        raise BadMarks("a torn place has no mark")
    check_how_far(work.marks, marks, steps_done, part, asleep)
    return amid(device, work, marks, steps_done, part)


def check_how_far(marks, places, steps_done, part, asleep):
    """Refuse what both places hold, or how many steps are done, if it doesn't go with the marks."""
    written = [0, *marks]
    mark = max([mark for mark in places if mark is not None], default=0)
    # Behind the last one nothing is under way.
    if mark not in written[:-1]:
        raise BadMarks(f"{mark} is no mark from which it goes on")
    at = written.index(mark)
    # By turns: the mark ahead of all is in the second place, the first one in the first.
    other = places[at & 1]
    ahead = written[at - 1] if at > 0 else None
    if places[1 - (at & 1)] != mark or other not in (None, ahead) or (part == 1 and other is not None):
        raise BadMarks(f"{places} can't be in both places")
    due = written[at + 1]
    least = due if part == 1 else mark
    most = mark if asleep else due
    if not least <= steps_done <= most:
        raise BadMarks(f"{steps_done} steps can't be done")


def shop_from(parts):
    """Tell the shop of an image's parts."""
    kept, houses, sent, check = parts
    devices = [device_from(house[-1]) for house in houses]
    try:
        editions = editions_of(kept)
        stand = all([stands_so(house, device, editions) for house, device in zip(houses, devices)])
    except PatchError:
        stand = False
    if not stand:
        raise BadImage(check)
    leans = {name: (base, patch) for name, _, base, patch in kept if base is not None}
    customers = [customer_from(house, device) for house, device in zip(houses, devices)]
    return opened(editions, leans, customers, sent)


def editions_of(kept):
    """Tell the bytes of all editions by their names."""
    names = [edition[0] for edition in kept]
    if not all([one < other for one, other in zip(names, names[1:])]):
        raise BadName("names must rise")
    told = {}
    # Each time at least those are found that lean on what was found the time ahead.
    for _ in kept:
        for name, edition, base, patch in kept:
            if edition is not None:
                check_edition(edition)
                told[name] = edition
            elif base in told:
                told[name] = done(patch, told[base])
    if len(told) < len(kept):
        raise Around("a base isn't there, or leans on its own edition")
    return told


def stands_so(house, device, editions):
    """Tell whether a device of a house, and what it was sent, can stand so."""
    name, begun, legs, _ = house
    names = [name] + [other for other, _ in legs]
    if [other for other in names if other not in editions]:
        return False
    for one, (other, patch) in zip(names, legs):
        if done(patch, editions[one]) != editions[other]:
            return False
        # One with too many copies in a ring was refused as it was sent.
        lightest(patch)
    if not begun:
        return device.edition() == editions[name]
    if not legs or device.old_edition() != editions[name]:
        return False
    return device.under_way()[0] == as_done(legs[0][1], editions[name])


def customer_from(house, device):
    """Tell the device of a house, with what it was sent."""
    name, begun, legs, _ = house
    customer = Customer(device, name)
    customer.coming = list(legs)
    if begun:
        customer.now = customer.coming.pop(0)
    return customer
