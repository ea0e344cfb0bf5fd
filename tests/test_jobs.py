"""Point 22: jobs, their best, how few, and their reports."""

import random
import unittest

from platecuts.best import best_of
from platecuts.errors import NoPlate, TooLarge
from platecuts.fewest import fewest_of
from platecuts.jobs import Job
from platecuts.pictures import picture
from platecuts.shops import Shop
from platecuts.shoptexts import read_shop, shop_text

from things import HUGE, SIXTY, Refusing, chance_wanting, no_wholes

TEXT = "1\n3 2 5 4 turns\n4 4 9 0 stays\n"
KINDS = [(3, 2, 5, 4, True), (4, 4, 9, 0, False)]


class Looking(Refusing, unittest.TestCase):
    def look(self, job, shop, wide, high):
        """The report, when all is told as the single functions tell it."""
        best = job.best()
        self.assertIs(type(best), tuple)
        self.assertEqual(best, best_of(shop, wide, high))
        told = job.report()
        self.assertIs(type(told), list)
        self.assertTrue(all(type(line) is str for line in told))
        many = len(shop.kinds()) + 1
        self.assertEqual("".join(line + "\n" for line in told[:many]), shop_text(shop))
        self.assertEqual(told[many], f"plate {wide} {high}")
        self.assertEqual(told[many + 1], f"worth {best[0]}")
        self.assertEqual(told[many + 2:], picture(shop, wide, high, best[1]))
        return told


class Jobs(Looking):
    def test_report(self):
        shop = Shop(1, [(3, 2, 5, 4, False), (2, 2, 0, 0, False)])
        told = Job(shop, 3, 2).report()
        self.assertEqual(told, ["1", "3 2 5 4 stays", "2 2 0 0 stays", "plate 3 2", "worth 5", "aaa", "aaa"])
        self.assertEqual(Job(shop, 2, 1).report(), ["1", "3 2 5 4 stays", "2 2 0 0 stays", "plate 2 1", "worth 0", ".."])
        told = Job(Shop(0, [(1, 1, HUGE, SIXTY, True)]), 1, 1).report()
        self.assertEqual(told, ["0", f"1 1 {HUGE} {SIXTY} turns", "plate 1 1", f"worth {HUGE}", "a"])

    def test_of_a_shop_that_was_read(self):
        made, read = Shop(1, KINDS), read_shop(TEXT)
        for wide, high in ((8, 7), (16, 16), (1, 16), (5, 4)):
            one = self.look(Job(made, wide, high), made, wide, high)
            other = self.look(Job(read, wide, high), read, wide, high)
            self.assertEqual(one, other)
            self.assertEqual(one[:4], ["1", "3 2 5 4 turns", "4 4 9 0 stays", f"plate {wide} {high}"])
            self.assertEqual(len(one), 5 + high)

    def test_by_chance(self):
        chance = random.Random(36)
        for _ in range(60):
            shop = chance_wanting(chance, 5, 6)
            wide, high = chance.randint(1, 16), chance.randint(1, 16)
            job = Job(shop, wide, high)
            self.look(job, shop, wide, high)
            if max(wide, high) <= 8:
                self.assertEqual(job.few(), fewest_of(shop, wide, high))
            else:
                self.refused(TooLarge, job.few)

    def test_few(self):
        self.assertEqual(Job(Shop(0, [(1, 1, 5, 0, True)]), 8, 8).few(), (0, []))
        self.assertIsNone(Job(Shop(0, [(9, 1, 5, 1, True)]), 8, 8).few())
        self.assertEqual(Job(Shop(0, [(2, 2, 5, 6, True)]), 4, 4).few()[0], 2)


class Promises(Looking):
    def test_two_jobs_of_one_shop(self):
        shop = Shop(1, KINDS)
        one, other = Job(shop, 8, 7), Job(shop, 5, 8)
        kept = (self.look(one, shop, 8, 7), self.look(other, shop, 5, 8))
        for _ in range(3):
            self.assertEqual(self.look(one, shop, 8, 7), kept[0])
            self.assertEqual(one.few(), fewest_of(shop, 8, 7))
            self.assertEqual(self.look(other, shop, 5, 8), kept[1])
            self.assertEqual(other.few(), fewest_of(shop, 5, 8))
        self.assertNotEqual(kept[0], kept[1])

    def test_told_things_are_the_askers_own(self):
        shop = Shop(1, KINDS)
        job = Job(shop, 8, 7)
        best, few, report = job.best(), job.few(), job.report()
        kept = (best[0], best[1], dict(best[2])), (few[0], list(few[1])), list(report)
        best[2].clear()
        few[1].clear()
        report.clear()
        self.assertEqual((job.best(), job.few(), job.report()), kept)
        job.report().append("more")
        job.best()[2][(8, 7)] = 0
        self.assertEqual((job.best(), job.few(), job.report()), kept)
        self.assertEqual(shop.kinds(), KINDS)

    def test_no_plate_comes_first(self):
        shop = Shop(1, KINDS)
        for wrong in no_wholes(1):
            self.refused(NoPlate, Job, shop, wrong, 5)
            self.refused(NoPlate, Job, shop, 5, wrong)
            self.refused(NoPlate, Job, shop, 17, wrong)
            self.refused(NoPlate, Job, shop, wrong, 17)

    def test_too_large_when_it_is_made(self):
        shop = Shop(1, KINDS)
        for side in (17, 18, 60, SIXTY, HUGE):
            for other in (1, 16, side):
                self.refused(TooLarge, Job, shop, side, other)
                self.refused(TooLarge, Job, shop, other, side)

    def test_few_refuses_and_all_else_stays(self):
        for shop, sides in ((Shop(1, KINDS), ((9, 8), (8, 9), (16, 16), (1, 9))),
                            (Shop(1, [(3, 2, 5, 7, True)]), ((8, 8), (1, 1), (9, 9))),
                            (Shop(1, [(3, 2, 5, 4, True), (9, 9, 1, 3, True)]), ((8, 8), (16, 1)))):
            for wide, high in sides:
                job = Job(shop, wide, high)
                before = job.best(), job.report()
                for _ in range(2):
                    self.refused(TooLarge, job.few)
                    self.assertEqual((job.best(), job.report()), before)
                    self.look(job, shop, wide, high)


if __name__ == "__main__":
    unittest.main()
