"""A shop of editions, and what it sends to devices."""

from patchover.carrying import lightest
from patchover.coding import size
from patchover.customers import Customer
from patchover.devices import Device
from patchover.errors import Around, BadDeed, InUse, Known, NoDevice, NoName, PatchError, TooMany
from patchover.finding import least
from patchover.keeping import least_of
from patchover.naming import check_name
from patchover.patches import joined
from patchover.pieces import check_edition, is_number
from patchover.ways import sizes_of, way

MOST_EDITIONS = 6
MOST_DEVICES = 4


class Shop:
    """A shop, its editions, and the devices that it gave."""

    def __init__(self):
        # Deeds replace these four, and never change them: so what stood ahead of a deed can be kept.
        self._editions = {}
        self._leans = {}
        self._customers = []
        self._sent = 0
        # Of each deed (deed, and these four as they stood ahead of it).
        self._past = []
        # Least patches that were found, by both editions, for finding them takes long.
        self._found = {}

    def put(self, name, edition):
        """Lay in an edition, kept whole."""
        check_name(name)
        if name in self._editions:
            raise Known(f"there is an edition {name}")
        if len(self._editions) >= MOST_EDITIONS:
            raise TooMany(f"there are {MOST_EDITIONS} editions")
        check_edition(edition)
        self._keep(("put", name, edition))
        self._editions = {**self._editions, name: edition}

    def lean(self, name, base):
        """Keep an edition by the least patch of another one."""
        self._check_known(name)
        if name in self.chain_of(base):
            raise Around(f"{base} is {name}, or leans on it")
        patch = self.patch_between(base, name)
        self._keep(("lean", name, base))
        self._leans = {**self._leans, name: (base, patch)}

    def whole(self, name):
        """Keep an edition whole again."""
        self._check_known(name)
        self._keep(("whole", name))
        self._leans = without(self._leans, name)

    def drop(self, name):
        """Take an edition away."""
        self._check_known(name)
        if any([name in customer.names() for customer in self._customers]):
            raise InUse(f"a device holds {name}, or is to come to it")
        self._keep(("drop", name))
        self._editions = without(self._editions, name)
        self._leans = leans_without(self._leans, name)

    def tidy(self):
        """Keep all by the least cost, and tell by how much less."""
        least_cost, bases = self.least_kept()
        less = self.cost() - least_cost
        self._keep(("tidy",))
        if less > 0:
            self._leans = {
                name: (base, self.patch_between(base, name)) for name, base in bases.items() if base is not None
            }
        return less

    def give(self, name):
        """Make a device of an edition, and tell its number."""
        self._check_known(name)
        if len(self._customers) >= MOST_DEVICES:
            raise TooMany(f"there are {MOST_DEVICES} devices")
        self._keep(("give", name))
        self._customers = [*self._customers, Customer(Device(self._editions[name]), name)]
        return len(self._customers) - 1

    def send(self, number, name):
        """Let a device come to an edition, and tell how many bytes it is sent."""
        customer = self._customer(number).twin()
        many, names = way(self, customer.names()[-1], name)
        for one, other in zip(names, names[1:]):
            patch = self.patch_between(one, other)
            # What can't be done is refused now, not when its turn comes.
            lightest(patch)
            customer.coming.append((other, patch))
        self._keep(("send", number, name))
        self._replace(number, customer)
        self._sent += many
        return many

    def go(self, number, many):
        """Let a device do so many writes, and tell how many were done."""
        customer = self._customer(number).twin()
        writes = customer.go(many)
        self._keep(("go", number, many))
        self._replace(number, customer)
        return writes

    def cut(self, number):
        """Cut a device's power."""
        customer = self._customer(number).twin()
        customer.device.cut()
        self._keep(("cut", number))
        self._replace(number, customer)

    def wake(self, number):
        """Wake a device, and tell the mark from which it goes on."""
        customer = self._customer(number).twin()
        mark = customer.device.wake()
        self._keep(("wake", number))
        self._replace(number, customer)
        return mark

    def do(self, deed):
        """Do a deed, handed in as deeds tells it, and tell what it tells."""
        match deed:
            case ("put", name, edition):
                return self.put(name, edition)
            case ("lean", name, base):
                return self.lean(name, base)
            case ("whole", name):
                return self.whole(name)
            case ("drop", name):
                return self.drop(name)
            case ("give", name):
                return self.give(name)
            case ("send", number, name):
                return self.send(number, name)
            case ("go", number, many):
                return self.go(number, many)
            case ("cut", number):
                return self.cut(number)
            case ("wake", number):
                return self.wake(number)
            case ("tidy",):
                return self.tidy()
            case _:
                # The one that was handed in, counted from 0.
                raise BadDeed(0)

    def back(self):
        """Take the last deed back, and tell whether there was one."""
        if not self._past:
            return False
        _, self._editions, self._leans, self._customers, self._sent = self._past.pop()
        return True

    def deeds(self):
        """Tell the deeds that were done and not taken back."""
        return [kept[0] for kept in self._past]

    def names(self):
        """Tell the names of all editions, rising."""
        return sorted(self._editions)

    def edition(self, name):
        """Tell the bytes of an edition."""
        self._check_known(name)
        return self._editions[name]

    def base_of(self, name):
        """Tell the name by whose patch an edition is kept, None for a whole one."""
        self._check_known(name)
        return self._leans[name][0] if name in self._leans else None

    def patch_of(self, name):
        """Tell the patch by which an edition is kept, None for a whole one."""
        self._check_known(name)
        return self._leans[name][1] if name in self._leans else None

    def chain_of(self, name):
        """Tell the names from the whole one on which an edition hangs to itself."""
        self._check_known(name)
        chain = [name]
        while chain[0] in self._leans:
            chain = [self._leans[chain[0]][0], *chain]
        return chain

    def cost(self):
        """Tell how many bytes are kept."""
        wholes = [whole_cost(edition) for name, edition in self._editions.items() if name not in self._leans]
        return sum(wholes) + sum([size(patch) for _, patch in self._leans.values()])

    def least_kept(self):
        """Tell (cost, bases), the least cost by which all editions can be kept, and how."""
        wholes = {name: whole_cost(edition) for name, edition in self._editions.items()}
        return least_of(self.names(), wholes, sizes_of(self))

    def sent(self):
        """Tell how many bytes all patches have that were sent."""
        return self._sent

    def holds(self, number):
        """Tell (name, names) of a device: what it has, and what it is to come to."""
        names = self._customer(number).names()
        return names[0], names[1:]

    def bytes_of(self, number):
        """Tell the bytes that a device holds, None while a patch is under way."""
        return self._customer(number).device.edition()

    def wear(self, number):
        """Tell how many writes each cell of a device had."""
        return self._customer(number).device.wear()

    def stands(self, number):
        """Tell how a device stands."""
        return self._customer(number).device.stands()

    def customers(self):
        """Tell all devices of the house, with what they were sent, as they stand now."""
        return [customer.twin() for customer in self._customers]

    def patch_between(self, one, other):
        """Tell the least patch from one edition to another."""
        pair = (self.edition(one), self.edition(other))
        if pair not in self._found:
            self._found[pair] = least(pair[0], pair[1])
        return self._found[pair]

    def _check_known(self, name):
        """Refuse a name by which there is no edition."""
        if name not in self._editions:
            raise NoName(f"there is no edition {name}")

    def _customer(self, number):
        """Tell the device of this number, with what it was sent."""
        if not is_number(number, 0, len(self._customers) - 1):
            raise NoDevice(f"there is no device {number}")
        return self._customers[number]

    def _keep(self, deed):
        """Keep a deed, and what stands ahead of it."""
        self._past.append((deed, self._editions, self._leans, self._customers, self._sent))

    def _replace(self, number, customer):
        """Put a device in the place of the one with its number."""
        self._customers = self._customers[:number] + [customer] + self._customers[number + 1:]


def again(deeds):
    """Tell a shop that did these deeds."""
    shop = Shop()
    for number, deed in enumerate(deeds):
        try:
            shop.do(deed)
        except PatchError:
            raise BadDeed(number) from None
    return shop


def opened(editions, leans, customers, sent):
    """Tell a shop that has these editions and devices, and did no deeds."""
    shop = Shop()
    shop._editions = dict(editions)
    shop._leans = dict(leans)
    shop._customers = list(customers)
    shop._sent = sent
    return shop


def whole_cost(edition):
    """Tell how many bytes are kept for a whole edition."""
    return len(edition) + 1


def without(table, name):
    """Tell a table without what stands in it by a name, if anything does."""
    return {other: worth for other, worth in table.items() if other != name}


def leans_without(leans, name):
    """Tell by what editions are kept when one is taken away, on which others may lean."""
    told = {}
    for other, (base, patch) in without(leans, name).items():
        if base != name:
            told[other] = (base, patch)
        elif name in leans:
            told[other] = (leans[name][0], joined([leans[name][1], patch]))
    return told
