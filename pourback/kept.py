"""Tubs kept, pour by pour."""

from pourback.errors import Full, NoPour, NothingLeft
from pourback.exact import NOUGHT, apart, together
from pourback.pours import behind_pour, is_pour, need_parts, need_share

MOST_KEPT = 100


class Kept:
    """Two tubs and the pours that were made in them."""

    def __init__(self, parts, share):
        need_parts(parts)
        need_share(share)
        self.parts = parts
        self.made = []
        # The first one is the share ahead of all pours.
        self.shares = [share]

    def pour(self, pour):
        """Make one pour."""
        if not is_pour(pour):
            raise NoPour("a pour is right or left")
        if len(self.made) >= MOST_KEPT:
            raise Full("a hundred pours were made")
        self.shares.append(behind_pour(self.parts, self.shares[-1], pour))
        self.made.append(pour)

    def back(self):
        """Take the last pour back."""
        if len(self.made) == 0:
            raise NothingLeft("there is no pour to take back")
        self.made.pop()
        self.shares.pop()

    def share(self):
        """Tell how much of all is in the left tub."""
        return self.shares[-1]

    def pours(self):
        """Tell all pours that were made, a tuple."""
        return tuple(self.made)

    def poured(self):
        """Tell the sum of what was poured, both ways together."""
        amount = NOUGHT
        for ahead, behind in zip(self.shares, self.shares[1:]):
            amount = together(amount, apart(ahead, behind))
        return amount

    def __len__(self):
        return len(self.made)

    def __eq__(self, other):
        if not isinstance(other, Kept):
            return False
        return self.parts == other.parts and self.shares == other.shares and self.made == other.made
