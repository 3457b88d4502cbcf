"""What comes of devices that are cut while a patch is under way."""

from patchover.devices import MOST_WRITES, Device
from patchover.patches import done


def histories(edition, patch):
    """Tell, for a cut behind each number of writes, (what wake tells, how many writes are needed then)."""
    device = begun(edition, patch)
    told = [from_cut_to_end(device.twin())]
    while device.go(1) == 1:
        told.append(from_cut_to_end(device.twin()))
    return told


def all_end(edition, patch, cuts):
    """Tell (whether it holds the new edition, how many writes were done) of a device that is cut behind each."""
    device = begun(edition, patch)
    writes = 0
    for many in cuts:
        writes += device.go(many)
        device.cut()
        device.wake()
    writes += device.go(MOST_WRITES)
    return device.edition() == done(patch, edition), writes


def begun(edition, patch):
    """Tell a device of an edition that has begun a patch."""
    device = Device(edition)
    device.begin(patch)
    return device


def from_cut_to_end(device):
    """Cut a device, and tell (what wake tells, how many writes it needs to its end)."""
    device.cut()
    mark = device.wake()
    return mark, device.go(MOST_WRITES)
