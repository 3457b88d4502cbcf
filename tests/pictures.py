"""What is told of a device, all at once, so that tests can see whether anything changed."""


def device_picture(device):
    """Tell all that a device tells without being changed."""
    return (
        device.edition(), bytes([device.peek(cell) for cell in range(200)]), device.old(), device.wear(),
        device.places_worn(), device.under_way(), device.stands(),
    )
