import random
import unittest

from movecollect.heaps import hold, made, put, sound, started
from movecollect.minor import come_young, minor
from tests import naive

MOST = naive.MOST


class MinorCase(unittest.TestCase):
    def come(self, heap, wanted):
        before = repr(heap)
        answer = come_young(heap)
        self.assertEqual(answer, wanted)
        self.assertIsInstance(answer, tuple)
        self.assertEqual(repr(heap), before)

    def gone_through(self, heap, patience, wanted):
        before = repr(heap)
        self.assertIs(sound(heap), True, "the test's own heap")
        answer = minor(heap, patience)
        self.assertEqual(answer, wanted)
        self.assertEqual(repr(heap), before)
        self.assertIs(sound(answer), True)
        self.assertEqual(naive.shape(answer), naive.shape(heap))


class ComeYoungTest(MinorCase):
    def test_nothing_there(self):
        self.come(started(0), ())
        self.come(started(3), ())

    def test_nothing_come_to(self):
        self.come((((0, ()), (1, (("young", 0),))), (), (None, 0, 1), ()), ())

    def test_from_the_roots(self):
        young = ((0, ()), (0, ()), (0, ()), (0, ()))
        self.come((young, (), (("young", 3), 2, ("young", 1), ("young", 3)), ()), (1, 3))

    def test_from_the_fields_of_what_is_come_to(self):
        young = ((0, ()), (0, (("young", 0),)), (0, (5, ("young", 1))), (0, (("young", 2),)))
        self.come((young, (), (("young", 2),), ()), (0, 1, 2))

    def test_from_the_book(self):
        young = ((0, ()), (0, (("young", 0),)), (0, ()), (0, ()))
        old = ((9, ()), (9, (("old", 0), ("young", 3), None, ("young", 1))))
        self.come((young, old, (), ((1, 1), (1, 3))), (0, 1, 3))

    def test_an_old_thing_that_no_root_leads_to_counts_by_the_book(self):
        self.come((((0, ()),), ((0, (("young", 0),)),), (), ((0, 0),)), (0,))

    def test_by_a_young_thing_and_then_an_old_one(self):
        young = ((0, ()), (0, (("old", 0),)))
        old = ((0, (("young", 0),)),)
        self.come((young, old, (("young", 1),), ((0, 0),)), (0, 1))

    def test_rings(self):
        young = (
            (0, (("young", 1),)), (0, (("young", 0),)),
            (0, (("young", 3),)), (0, (("young", 2),)),
            (0, (("young", 4),)),
        )
        self.come((young, (), (("young", 1),), ()), (0, 1))
        self.come((young, (), (("young", 4),), ()), (4,))
        self.come((young, (), (), ()), ())

    def test_the_place_not_the_word_of_an_old_pointer(self):
        young = ((0, ()), (0, ()))
        self.come((young, ((0, ()), (0, ())), (("old", 0), ("old", 1)), ()), ())

    def test_a_chain_of_all_that_a_half_may_have(self):
        ahead = tuple((0, (("young", place + 1),)) for place in range(1999)) + ((0, ()),)
        self.come((ahead, (), (("young", 0),), ()), tuple(range(2000)))
        self.come((ahead, (), (("young", 1990),), ()), tuple(range(1990, 2000)))
        back = ((0, ()),) + tuple((0, (("young", place),)) for place in range(1999))
        self.come((back, (), (("young", 1999),), ()), tuple(range(2000)))

    def test_all_lead_to_all(self):
        everyone = tuple(("young", place) for place in range(100))
        self.come((((0, everyone),) * 100, (), (("young", 50),), ()), tuple(range(100)))


class MinorTest(MinorCase):
    def test_nothing_there(self):
        self.gone_through(started(0), 0, started(0))
        self.gone_through(started(3), 5, started(3))

    def test_what_stays_is_a_year_older(self):
        young = ((0, ()), (1, (7,)))
        heap = (young, (), (("young", 0), ("young", 1)), ())
        self.gone_through(heap, 2, (((1, ()), (2, (7,))), (), heap[2], ()))

    def test_no_less_than_the_patience_is_moved_with_its_age(self):
        young = ((3, ()), (1, ()), (2, ()), (0, ()))
        roots = tuple(("young", place) for place in range(4))
        wanted = (
            ((2, ()), (1, ())),
            ((3, ()), (2, ())),
            (("old", 0), ("young", 0), ("old", 1), ("young", 1)),
            (),
        )
        self.gone_through((young, (), roots, ()), 2, wanted)

    def test_a_patience_of_nought_moves_all(self):
        young = ((0, (("young", 1), 4)), (5, (("young", 0),)), (9, ()))
        wanted = ((), ((0, (("old", 1), 4)), (5, (("old", 0),))), (("old", 1), None), ())
        self.gone_through((young, (), (("young", 1), None), ()), 0, wanted)

    def test_behind_all_that_is_there(self):
        old = ((8, (1,)), (2, ()))
        heap = (((1, ()), (4, (6,))), old, (("young", 1), ("young", 0), ("old", 1)), ())
        wanted = ((), old + ((1, ()), (4, (6,))), (("old", 3), ("old", 2), ("old", 1)), ())
        self.gone_through(heap, 1, wanted)

    def test_what_is_not_come_to_is_gone(self):
        young = ((0, ()), (9, (("young", 0),)), (0, (2,)), (9, ()))
        heap = (young, (), (None, ("young", 2), 3), ())
        self.gone_through(heap, 5, (((1, (2,)),), (), (None, ("young", 0), 3), ()))
        self.gone_through(heap, 0, ((), ((0, (2,)),), (None, ("old", 0), 3), ()))

    def test_the_order_is_as_it_was(self):
        young = tuple((place % 3, (place,)) for place in range(9))
        roots = tuple(("young", place) for place in (7, 2, 5, 1, 8, 0, 4))
        wanted = (
            ((1, (0,)), (2, (1,)), (2, (4,)), (2, (7,))),
            ((2, (2,)), (2, (5,)), (2, (8,))),
            (("young", 3), ("old", 0), ("old", 1), ("young", 1), ("old", 2), ("young", 0),
             ("young", 2)),
            (),
        )
        self.gone_through((young, (), roots, ()), 2, wanted)

    def test_old_things_stay_whether_come_to_or_not(self):
        old = ((0, ()), (7, (("old", 0), None)), (MOST, (("old", 2),)))
        self.gone_through(((), old, (("old", 1),), ()), 0, ((), old, (("old", 1),), ()))
        self.gone_through((((0, ()),), old, (), ()), 0, ((), old, (), ()))

    def test_the_book_keeps_gains_and_loses_pairs(self):
        young = ((0, ()), (4, (("young", 0), 1, ("young", 2))), (0, ()), (4, ()))
        old = (
            (1, (("young", 1), ("young", 0))),
            (1, (5,)),
            (1, (("old", 1), ("young", 2), ("young", 3))),
        )
        heap = (young, old, (), ((0, 0), (0, 1), (2, 1), (2, 2)))
        wanted = (
            ((1, ()), (1, ())),
            (
                (1, (("old", 3), ("young", 0))),
                (1, (5,)),
                (1, (("old", 1), ("young", 1), ("old", 4))),
                (4, (("young", 0), 1, ("young", 1))),
                (4, ()),
            ),
            (),
            ((0, 1), (2, 1), (3, 0), (3, 2)),
        )
        self.gone_through(heap, 4, wanted)

    def test_the_book_is_empty_when_all_are_moved(self):
        heap = (((0, (("old", 0),)),), ((2, (("young", 0),)),), (), ((0, 0),))
        self.gone_through(heap, 0, ((), ((2, (("old", 1),)), (0, (("old", 0),))), (), ()))

    def test_an_old_thing_that_points_to_all_of_one_kind(self):
        heap = (((0, ()), (3, ())), ((2, (("young", 1), 0, ("young", 1))),), (), ((0, 0), (0, 2)))
        self.gone_through(heap, 3, ((), ((2, (("old", 1), 0, ("old", 1))), (3, ())), (), ()))
        self.gone_through(
            heap, 4, (((4, ()),), ((2, (("young", 0), 0, ("young", 0))),), (), ((0, 0), (0, 2)))
        )

    def test_sharing_stays(self):
        young = ((0, (("young", 2), ("young", 2))), (6, (("young", 2),)), (1, (("young", 1),)))
        heap = (young, (), (("young", 0), ("young", 2), ("young", 2), ("young", 1)), ())
        wanted = (
            ((1, (("young", 1), ("young", 1))), (2, (("old", 0),))),
            ((6, (("young", 1),)),),
            (("young", 0), ("young", 1), ("young", 1), ("old", 0)),
            ((0, 0),),
        )
        self.gone_through(heap, 2, wanted)

    def test_things_alike_stay_two_things(self):
        heap = (((0, ()), (0, ()), (0, ())), (), (("young", 0), ("young", 2)), ())
        self.gone_through(heap, 1, (((1, ()), (1, ())), (), (("young", 0), ("young", 1)), ()))
        self.gone_through(heap, 0, ((), ((0, ()), (0, ())), (("old", 0), ("old", 1)), ()))

    def test_a_ring_that_is_split(self):
        young = ((0, ()), (5, (("young", 2),)), (0, (("young", 1),)))
        heap = (young, ((1, ()),), (("young", 2),), ())
        wanted = (
            ((1, (("old", 1),)),), ((1, ()), (5, (("young", 0),))), (("young", 0),), ((1, 0),),
        )
        self.gone_through(heap, 5, wanted)

    def test_a_ring_across_both_halves(self):
        heap = (((0, ()), (0, (("old", 0),))), ((3, (("young", 1),)),), (), ((0, 0),))
        wanted = (((1, (("old", 0),)),), ((3, (("young", 0),)),), (), ((0, 0),))
        self.gone_through(heap, 1, wanted)

    def test_a_thing_that_leads_to_itself(self):
        heap = (((0, ()), (2, (("young", 1), None))), (), (("young", 1),), ())
        self.gone_through(heap, 3, (((3, (("young", 0), None)),), (), (("young", 0),), ()))
        self.gone_through(heap, 2, ((), ((2, (("old", 0), None)),), (("old", 0),), ()))

    def test_a_ring_that_nothing_leads_to_is_gone(self):
        heap = (((0, (("young", 1),)), (0, (("young", 0),))), (), (None,), ())
        self.gone_through(heap, 9, ((), (), (None,), ()))

    def test_numbers_are_no_places(self):
        young = ((0, ()), (0, (0, 1, -1, MOST, -MOST, None)))
        heap = (young, (), (1, ("young", 1), 0, MOST), ())
        wanted = (((1, young[1][1]),), (), (1, ("young", 0), 0, MOST), ())
        self.gone_through(heap, 1, wanted)

    def test_ages_and_a_patience_of_sixty_figures(self):
        young = ((MOST, ()), (MOST - 1, ()), (0, ()))
        roots = (("young", 0), ("young", 1), ("young", 2))
        wanted = (
            ((MOST, ()), (1, ())), ((MOST, ()),), (("old", 0), ("young", 0), ("young", 1)), (),
        )
        self.gone_through((young, (), roots, ()), MOST, wanted)

    def test_a_life_from_young_to_old(self):
        heap, pointer = made(started(1), (4,))
        heap = hold(heap, 0, pointer)
        for age in (1, 2):
            heap = minor(heap, 2)
            self.assertEqual(heap, (((age, (4,)),), (), (("young", 0),), ()))
        heap = minor(heap, 2)
        self.assertEqual(heap, ((), ((2, (4,)),), (("old", 0),), ()))
        self.assertEqual(minor(heap, 2), heap)
        heap, pointer = made(heap, ())
        heap = put(heap, ("old", 0), 0, pointer)
        self.gone_through(
            heap, 2, (((1, ()),), ((2, (("young", 0),)),), (("old", 0),), ((0, 0),))
        )

    def test_a_chain_of_all_that_a_half_may_have(self):
        young = tuple((place % 2, (("young", place + 1),)) for place in range(1999)) + ((1, ()),)
        heap = (young, (), (("young", 0),), ())
        older = tuple((age + 1, fields) for age, fields in young)
        self.gone_through(heap, 2, (older, (), (("young", 0),), ()))
        moved = tuple((age, tuple(("old", x) for _, x in fields)) for age, fields in young)
        self.gone_through(heap, 0, ((), moved, (("old", 0),), ()))
        stayed = tuple((1, (("old", place),)) for place in range(1000))
        left = tuple((1, (("young", place + 1),)) for place in range(999)) + ((1, ()),)
        book = tuple((place, 0) for place in range(999))
        self.gone_through(heap, 1, (stayed, left, (("young", 0),), book))

    def test_a_chain_that_goes_to_and_fro_between_full_halves(self):
        young = tuple((1, (("old", place),)) for place in range(2000))
        old = tuple((5, (("young", place + 1),)) for place in range(1999)) + ((5, ()),)
        book = tuple((place, 0) for place in range(1999))
        roots = (("young", 0),) * 100
        older = tuple((2, fields) for _, fields in young)
        self.gone_through((young, old, roots, book), 2, (older, old, roots, book))

    def test_full_halves_of_full_things(self):
        fields = tuple(("young", place * 20) for place in range(100))
        heap = (((0, fields),) * 2000, ((0, fields),) * 2000, (("old", 0),) * 100, ())
        heap = heap[:3] + (naive.full_book(heap[1]),)
        now = tuple(("young", place) for place in range(100))
        wanted = (((1, now),) * 100, ((0, now),) * 2000, heap[2], heap[3])
        self.gone_through(heap, 1, wanted)


class ManyHeapsTest(MinorCase):
    def test_as_the_document_told_plainly(self):
        chance = random.Random(20)
        for _ in range(1500):
            heap = naive.chance_heap(chance)
            self.come(heap, naive.come_young(heap))
            for patience in (0, chance.randrange(1, 5), 6):
                self.gone_through(heap, patience, naive.minor(heap, patience))

    def test_again_and_again(self):
        chance = random.Random(21)
        for _ in range(100):
            heap = naive.chance_heap(chance)
            for _ in range(8):
                patience = chance.randrange(5)
                self.gone_through(heap, patience, naive.minor(heap, patience))
                heap, pointer = made(minor(heap, patience), (chance.randrange(9),))
                if heap[2]:
                    heap = hold(heap, chance.randrange(len(heap[2])), pointer)


if __name__ == "__main__":
    unittest.main()
