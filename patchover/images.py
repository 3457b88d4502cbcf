"""Devices and shops as images, which are bytes, and back."""

from patchover.coding import coded, number_code, with_check
from patchover.devices import CELLS
from patchover.reading import DEVICE, SHOP, device_at, read_whole, shop_at
from patchover.standing import device_from, shop_from


def device_bytes(device):
    """Tell the image of a device."""
    asleep = device.stands()[0] == "asleep"
    under_way = device.under_way()
    some = bytes([DEVICE]) + bytes([device.peek(cell) for cell in range(CELLS)])
    some += numbers_bytes(device.wear()) + numbers_bytes(device.places_worn())
    some += bytes([(0 if under_way is None else 1) + (2 if asleep else 0)])
    if under_way is None:
        some += number_code(len(device.edition()))
    else:
        some += work_bytes(device)
    return with_check(some)


def shop_bytes(shop):
    """Tell the image of a shop."""
    names = shop.names()
    some = bytes([SHOP, len(names)])
    for name in names:
        some += kept_bytes(shop, name)
    customers = shop.customers()
    some += bytes([len(customers)])
    for customer in customers:
        some += customer_bytes(customer)
    return with_check(some + number_code(shop.sent()))


def device_of(some):
    """Tell the device of an image."""
    return device_from(read_whole(device_at, some))


def shop_of(some):
    """Tell the shop of an image."""
    return shop_from(read_whole(shop_at, some))


def work_bytes(device):
    """Tell the part of an image that is what is under way."""
    stand = device.stands()
    steps_done = stand[1]
    part = stand[2] if stand[0] == "goes" else 0
    some = edition_bytes(device.old_edition()) + coded(device.under_way()[0])
    some += number_code(steps_done) + bytes([part])
    for mark in device.places():
        some += bytes([0, 0]) if mark is None else bytes([1]) + number_code(mark)
    return some


def kept_bytes(shop, name):
    """Tell the part of an image that is an edition, as it's kept."""
    base = shop.base_of(name)
    if base is None:
        return name_bytes(name) + bytes([0]) + edition_bytes(shop.edition(name))
    return name_bytes(name) + bytes([1]) + name_bytes(base) + coded(shop.patch_of(name))


def customer_bytes(customer):
    """Tell the part of an image that is a device of a house, with what it was sent."""
    legs = customer.legs()
    some = name_bytes(customer.name) + bytes([len(legs), 0 if customer.now is None else 1])
    for name, patch in legs:
        some += name_bytes(name) + coded(patch)
    return some + device_bytes(customer.device)


def name_bytes(name):
    """Tell a name as bytes."""
    return bytes([len(name)]) + name.encode("ascii")


def edition_bytes(edition):
    """Tell an edition as bytes, with how many they are."""
    return number_code(len(edition)) + edition


def numbers_bytes(numbers):
    """Tell numbers as bytes, one behind the other."""
    some = b""
    for number in numbers:
        some += number_code(number)
    return some
