"""Jobs: a shop and a plate, with their best tree, their fewest plates and a report."""

from platecuts.best import MOST_SIDE, best_of
from platecuts.checks import check_plate, check_sides
from platecuts.fewest import fewest_of
from platecuts.pictures import picture
from platecuts.shoptexts import shop_text


class Job:
    """A shop and a plate with sides of at most 16."""

    def __init__(self, shop, wide, high):
        check_plate(wide, high)
        check_sides(wide, high, MOST_SIDE)
        self.shop = shop
        self.wide = wide
        self.high = high

    def best(self):
        """(worth, tree, table): the most worth of the plate, a tree worth it, the most worth of each part."""
        return best_of(self.shop, self.wide, self.high)

    def few(self):
        """(many, trees): the fewest plates with all that is wanted; None if some of that does not fit."""
        return fewest_of(self.shop, self.wide, self.high)

    def report(self):
        """The lines of the shop's text, the plate, the most worth, and the picture of the best tree."""
        worth, tree, table = self.best()
        # The text ends with a line feed, behind which there is no line.
        lines = shop_text(self.shop).split("\n")[:-1]
        lines.extend([f"plate {self.wide} {self.high}", f"worth {worth}"])
        return lines + picture(self.shop, self.wide, self.high, tree)
