"""What is kept from one call to the next."""

SLOT_COUNT = 4


class Instance:
    """The slots, each with one polynomial; before create there are none."""

    def __init__(self):
        self.polynomials = []

    def create(self):
        """Makes all slots, or empties them."""
        self.polynomials = [[] for slot in range(SLOT_COUNT)]

    def is_created(self):
        """Whether create has been called."""
        return len(self.polynomials) > 0

    def lacks_slot(self, slots):
        """Whether one of these slots does not exist."""
        return any([slot >= SLOT_COUNT for slot in slots])

    def polynomial_in(self, slot):
        """The polynomial in a slot."""
        return self.polynomials[slot]

    def store(self, slot, polynomial):
        """Puts a polynomial into a slot."""
        self.polynomials[slot] = polynomial
