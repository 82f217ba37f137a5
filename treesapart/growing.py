"""Woods of a web that share no tie, and grow tie by tie."""

from treesapart.checks import refuse_count, refuse_number, refuse_two_places
from treesapart.errors import Held, NotHeld
from treesapart.exchange import full_with, put_tie, woods_by
from treesapart.layout import MOST_WOODS


class Woods:
    """So many woods of a web, at first without ties."""

    def __init__(self, web, many):
        refuse_count(many, 0, MOST_WOODS)
        self.web = web
        self.many = many
        self.homes = [None for tie in web[1]]

    def put(self, number):
        """Put a tie: ("put", moves), or ("full", places) where it can't be held, too."""
        if self.wood_of(number) is not None:
            raise Held("this tie is held")
        return put_tie(self.web, self.homes, self.many, number)

    def take(self, number):
        """Take a held tie, which is held no more."""
        if self.wood_of(number) is None:
            raise NotHeld("this tie isn't held")
        self.homes[number] = None

    def wood_of(self, number):
        """The number of the wood that holds a tie, or None."""
        refuse_number(self.web, number)
        return self.homes[number]

    def woods(self):
        """The numbers of the ties in each wood."""
        return woods_by(self.homes, self.many)

    def left(self):
        """The numbers of the ties that aren't held."""
        return [number for number, home in enumerate(self.homes) if home is None]

    def full(self, a, b):
        """Full places that have both a and b, or None where there are none."""
        refuse_two_places(self.web, a, b)
        return full_with(self.web, self.homes, self.many, a, b)

    def copied(self):
        """Woods just like these, which change on their own."""
        woods = Woods(self.web, self.many)
        woods.homes = list(self.homes)
        return woods
