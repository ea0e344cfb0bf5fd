"""Stores: plates that come, are cut, and leave rests that come as plates again."""

from platecuts.checks import check_plate, is_whole
from platecuts.errors import NoNumber
from platecuts.measures import counts_of, rests_of


class Store:
    """The plates of a shop, by numbers from 0 on, and what was made of them."""

    def __init__(self, shop, least):
        if not is_whole(least, 1):
            raise NoNumber("the least side of a rest that is kept is a whole number from 1 on")
        self.shop = shop
        self.least = least
        # All that stands now: (plates, the number that comes next, pieces made, cells put). It is replaced by
        # each deed and never changed, so that what stood ahead of a deed can be kept for an undo.
        self.standing = ((), 0, tuple([0 for kind in shop.kinds()]), 0)
        self.past = []

    def replace_standing(self, standing):
        """Let this stand now, and keep what stood ahead of it."""
        self.past.append(self.standing)
        self.standing = standing

    def put(self, wide, high):
        """Take a plate; its number is told."""
        check_plate(wide, high)
        plates, number, made, cells_put = self.standing
        self.replace_standing((plates + ((number, wide, high),), number + 1, made, cells_put + wide * high))
        return number

    def plate_of(self, number):
        """The plate (number, wide, high) that is there by a number; anything else is refused."""
        if is_whole(number, 0):
            for plate in self.standing[0]:
                if plate[0] == number:
                    return plate
        raise NoNumber("no plate with this number is there")

    def cut(self, number, tree):
        """Cut a plate by a tree of it; the numbers of the rests that come as plates are told."""
        gone = self.plate_of(number)
        rests = rests_of(self.shop, gone[1], gone[2], tree)
        counts = counts_of(self.shop, gone[1], gone[2], tree)
        plates, upcoming, made, cells_put = self.standing
        kept = [(wide, high) for x, y, wide, high in rests if min(wide, high) >= self.least]
        came = [(upcoming + at, wide, high) for at, (wide, high) in enumerate(kept)]
        others = [plate for plate in plates if plate != gone]
        all_made = tuple([before + more for before, more in zip(made, counts)])
        self.replace_standing((tuple(others + came), upcoming + len(came), all_made, cells_put))
        return [plate[0] for plate in came]

    def plates(self):
        """The plates (number, wide, high) that are there, rising: a new list."""
        # New numbers come behind, and are greater than all before.
        return list(self.standing[0])

    def made(self):
        """How many pieces of each kind were made: a new list."""
        return list(self.standing[2])

    def cells(self):
        """(put, there, made, lost): the cells of plates put, of those there, of pieces made, and all else."""
        plates, upcoming, made, cells_put = self.standing
        there = sum([wide * high for number, wide, high in plates])
        cells_made = sum([many * kind[0] * kind[1] for many, kind in zip(made, self.shop.kinds())])
        return (cells_put, there, cells_made, cells_put - there - cells_made)

    def undo(self):
        """Take back the last deed that is not undone yet; tell whether there was one."""
        if not self.past:
            return False
        self.standing = self.past.pop()
        return True
