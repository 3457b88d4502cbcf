"""What is told of a device or of a shop, all at once, so that tests can see whether anything changed."""

from patchover.errors import NoDevice
from patchover.images import shop_bytes


def device_picture(device):
    """Tell all that a device tells without being changed."""
    return (
        device.edition(), bytes([device.peek(cell) for cell in range(200)]), device.old(), device.wear(),
        device.places_worn(), device.under_way(), device.stands(),
    )


def shop_picture(shop):
    """Tell all that a shop tells without being changed, but for deeds."""
    editions = [
        (name, shop.edition(name), shop.base_of(name), shop.patch_of(name), shop.chain_of(name))
        for name in shop.names()
    ]
    devices = [
        (shop.holds(number), shop.bytes_of(number), shop.wear(number), shop.stands(number))
        for number in range(devices_of(shop))
    ]
    return editions, devices, shop.cost(), shop.sent(), shop_bytes(shop)


def devices_of(shop):
    """Tell how many devices a shop gave."""
    for number in range(5):
        try:
            shop.holds(number)
        except NoDevice:
            return number
    return 5
