"""What is kept from one call to the next."""

from interlaced.fraction_polynomials import whole_multiple

SLOT_COUNT = 4


class Instance:
    """The slots, each with one polynomial; before create there are none."""

    def __init__(self):
        self.polynomials = []

    def create(self):
        """Makes all slots, or empties them."""
        self.polynomials = [[] for slot in range(SLOT_COUNT)]

    def is_created(self):
        """Whether create has been called."""
        return len(self.polynomials) > 0

    def lacks_slot(self, slots):
        """Whether one of these slots does not exist."""
        return any([slot >= SLOT_COUNT for slot in slots])

    def polynomial_in(self, slot):
        """The polynomial in a slot."""
        return self.polynomials[slot]

    def is_zero_in(self, slot):
        """Whether the polynomial in a slot is zero."""
        return len(self.polynomials[slot]) == 0

    def whole_in(self, slot):
        """Whole coefficients with the roots of the polynomial in a slot."""
        return whole_multiple(self.polynomials[slot])

    def store(self, slot, polynomial):
        """Puts a polynomial into a slot."""
        self.polynomials[slot] = polynomial
