"""All refusals of the program."""


class PatchError(ValueError):
    """Any refusal."""


class BadEdition(PatchError):
    """An edition has too many bytes."""


class BadPatch(PatchError):
    """A piece can't be, or makes its patch too long."""

    def __init__(self, piece):
        super().__init__(f"piece {piece} can't be, or makes the patch too long")
        self.piece = piece


class Beyond(PatchError):
    """A piece copies what the old edition hasn't."""

    def __init__(self, piece):
        super().__init__(f"piece {piece} copies what the old edition hasn't")
        self.piece = piece


class BadCount(PatchError):
    """A number can't be, or so many can't be."""


class BadMeet(PatchError):
    """A patch needs more bytes than the one ahead of it makes."""

    def __init__(self, number):
        super().__init__(f"patch {number} needs more bytes than the one ahead makes")
        self.number = number


class BadCode(PatchError):
    """A code can't be read."""

    def __init__(self, place):
        super().__init__(f"the byte at {place} can't be in a code")
        self.place = place


class TooMany(PatchError):
    """There are more of a thing than can be dealt with."""


class BadPieces(PatchError):
    """A list of copies to bring can't be."""


class BadOrder(PatchError):
    """A list is no order of a patch."""

    def __init__(self, number):
        super().__init__(f"place {number} of the order can't be")
        self.number = number


class BadMarks(PatchError):
    """Marks don't go with their steps."""


class Underway(PatchError):
    """Another patch is under way."""


class Asleep(PatchError):
    """The power of a device is cut."""


class Awake(PatchError):
    """The power of a device isn't cut."""


class BadCell(PatchError):
    """A device has no such cell."""


class BadName(PatchError):
    """A name can't be."""


class Known(PatchError):
    """There is an edition by this name."""


class NoName(PatchError):
    """There is no edition by this name."""


class Around(PatchError):
    """An edition would lean on itself."""


class InUse(PatchError):
    """A device holds an edition, or is to come to it."""


class NoDevice(PatchError):
    """There is no device by this number."""


class BadDeed(PatchError):
    """A deed is none, or is refused."""

    def __init__(self, number):
        super().__init__(f"deed {number} is none, or is refused")
        self.number = number


class BadImage(PatchError):
    """An image can't be read."""

    def __init__(self, place):
        super().__init__(f"the byte at {place} can't be in an image")
        self.place = place


class BadText(PatchError):
    """A text can't be read."""

    def __init__(self, row):
        super().__init__(f"row {row} can't be read")
        self.row = row


class Halted(PatchError):
    """A deed of a script is refused."""

    def __init__(self, row):
        super().__init__(f"the deed in row {row} is refused")
        self.row = row
