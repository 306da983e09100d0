import random
import unittest

from movecollect.heaps import hold, made, put, sound, started
from movecollect.major import come_both, major
from movecollect.minor import minor
from tests import naive

MOST = naive.MOST


class MajorCase(unittest.TestCase):
    def come(self, heap, wanted):
        before = repr(heap)
        self.assertIs(sound(heap), True, "the test's own heap")
        answer = come_both(heap)
        self.assertEqual(answer, wanted)
        self.assertEqual([half.__class__ for half in (answer,) + answer], [tuple] * 3)
        self.assertEqual(repr(heap), before)

    def gone_through(self, heap, wanted):
        before = repr(heap)
        self.assertIs(sound(heap), True, "the test's own heap")
        answer = major(heap)
        self.assertEqual(answer, wanted)
        self.assertEqual(repr(heap), before)
        self.assertIs(sound(answer), True)
        self.assertEqual(naive.shape(answer), naive.shape(heap))
        self.assertEqual(major(answer), answer)


class ComeBothTest(MajorCase):
    def test_nothing_there(self):
        self.come(started(0), ((), ()))
        self.come(started(3), ((), ()))

    def test_nothing_come_to(self):
        young = ((0, ()), (1, (("young", 0), ("old", 0))))
        self.come((young, ((0, (("young", 0),)),), (None, 0, 1), ((0, 0),)), ((), ()))

    def test_from_the_roots(self):
        young, old = ((0, ()),) * 4, ((0, ()),) * 3
        roots = (("young", 3), ("old", 2), 1, ("young", 1), ("old", 0), ("young", 3))
        self.come((young, old, roots, ()), ((1, 3), (0, 2)))

    def test_the_half_counts_not_the_place_alone(self):
        young, old = ((0, ()),) * 3, ((0, ()),) * 3
        self.come((young, old, (("old", 1),), ()), ((), (1,)))
        self.come((young, old, (("young", 2),), ()), ((2,), ()))

    def test_from_the_fields_of_what_is_come_to(self):
        young = ((0, ()), (0, (("old", 1), 7)), (0, (("young", 0),)))
        old = ((0, ()), (0, (None, ("young", 2))), (0, (("old", 0),)))
        self.come((young, old, (("young", 1),), ((1, 1),)), ((0, 1, 2), (1,)))
        self.come((young, old, (("old", 2),), ((1, 1),)), ((), (0, 2)))

    def test_the_book_counts_for_nothing(self):
        young = ((0, (("young", 1),)), (0, ()), (0, ()))
        old = ((5, (("young", 0),)), (5, (("young", 2),)))
        self.come((young, old, (("old", 1),), ((0, 0), (1, 0))), ((2,), (1,)))
        self.come((young, old, (), ((0, 0), (1, 0))), ((), ()))

    def test_led_to_twice(self):
        young = ((0, (("old", 0), ("old", 0))), (0, ()))
        old = ((0, (("young", 1), ("young", 1))),)
        roots = (("young", 0), ("old", 0), ("young", 0))
        self.come((young, old, roots, ((0, 0), (0, 1))), ((0, 1), (0,)))

    def test_rings(self):
        young = ((0, (("young", 0),)), (0, (("old", 1),)), (0, (("old", 2),)))
        old = ((0, (("old", 0),)), (0, (("young", 1),)), (0, (("young", 2),)))
        book = ((1, 0), (2, 0))
        self.come((young, old, (("young", 0),), book), ((0,), ()))
        self.come((young, old, (("old", 0),), book), ((), (0,)))
        self.come((young, old, (("old", 1),), book), ((1,), (1,)))
        self.come((young, old, (("young", 2), ("young", 1)), book), ((1, 2), (1, 2)))
        self.come((young, old, (), book), ((), ()))

    def test_numbers_are_no_places(self):
        young = ((0, (0, 1, -1, MOST)), (0, ()))
        self.come((young, ((0, ()),), (0, 1, MOST, ("young", 0)), ()), ((0,), ()))

    def test_chains_of_all_that_a_half_may_have(self):
        young = tuple((0, (("young", place + 1),)) for place in range(1999)) + ((0, ()),)
        old = tuple((0, (("old", place + 1),)) for place in range(1999)) + ((0, ()),)
        roots = (("young", 0), ("old", 1990))
        self.come((young, old, roots, ()), (tuple(range(2000)), tuple(range(1990, 2000))))

    def test_a_chain_that_goes_to_and_fro_between_full_halves(self):
        young = tuple((1, (("old", place),)) for place in range(2000))
        old = tuple((5, (("young", place + 1),)) for place in range(1999)) + ((5, ()),)
        book = tuple((place, 0) for place in range(1999))
        every = tuple(range(2000))
        self.come((young, old, (("young", 0),), book), (every, every))
        self.come((young, old, (("old", 500),), book), (every[501:], every[500:]))


class MajorTest(MajorCase):
    def test_nothing_there(self):
        self.gone_through(started(0), started(0))
        self.gone_through(started(3), started(3))

    def test_all_is_come_to(self):
        young = ((4, (("old", 0),)), (0, (3, None)))
        old = ((0, (("young", 1),)), (9, ()))
        heap = (young, old, (("young", 0), 5, ("old", 1)), ((0, 0),))
        self.gone_through(heap, heap)

    def test_nothing_is_come_to(self):
        young = ((0, (("young", 0),)), (1, (("old", 0),)))
        heap = (young, ((7, (("young", 1),)),), (None, 4, -MOST), ((0, 0),))
        self.gone_through(heap, ((), (), (None, 4, -MOST), ()))

    def test_each_stays_in_its_half_with_its_age_in_its_order(self):
        young = tuple((age, (age,)) for age in (5, 0, MOST, 2, 1))
        old = tuple((age, (age, 0)) for age in (3, 0, 8, 1, 2))
        roots = (("old", 4), ("young", 4), ("old", 1), ("young", 2), ("young", 0), ("old", 2))
        wanted = (
            ((5, (5,)), (MOST, (MOST,)), (1, (1,))),
            ((0, (0, 0)), (8, (8, 0)), (2, (2, 0))),
            (("old", 2), ("young", 2), ("old", 0), ("young", 1), ("young", 0), ("old", 1)),
            (),
        )
        self.gone_through((young, old, roots, ()), wanted)

    def test_old_things_of_the_book_and_what_they_alone_lead_to_are_gone(self):
        young = ((0, ()), (0, (("young", 0),)), (2, (6,)))
        old = ((1, (("young", 1), ("young", 2))), (1, (("young", 2),)))
        heap = (young, old, (("old", 1),), ((0, 0), (0, 1), (1, 0)))
        wanted = (((2, (6,)),), ((1, (("young", 0),)),), (("old", 0),), ((0, 0),))
        self.gone_through(heap, wanted)

    def test_what_only_the_book_kept_stays_behind_minor_and_not_behind_major(self):
        heap = (((0, ()),), ((0, (("young", 0),)),), (None,), ((0, 0),))
        kept = (((1, ()),), ((0, (("young", 0),)),), (None,), ((0, 0),))
        self.assertEqual(minor(heap, 9), kept)
        self.gone_through(heap, started(1))

    def test_the_book_is_anew(self):
        young = ((0, ()), (0, ()), (0, ()))
        old = (
            (0, (("young", 0), ("young", 2))),
            (0, (1, ("young", 2), ("old", 3), ("young", 1))),
            (0, (("young", 1),)),
            (0, (("old", 1), ("young", 2), ("young", 2))),
            (0, ()),
        )
        book = ((0, 0), (0, 1), (1, 1), (1, 3), (2, 0), (3, 1), (3, 2))
        wanted = (
            ((0, ()), (0, ())),
            (
                (0, (1, ("young", 1), ("old", 1), ("young", 0))),
                (0, (("old", 0), ("young", 1), ("young", 1))),
            ),
            (("old", 1),),
            ((0, 1), (0, 3), (1, 1), (1, 2)),
        )
        self.gone_through((young, old, (("old", 3),), book), wanted)

    def test_the_book_is_anew_though_no_old_thing_is_gone(self):
        young = ((0, ()), (3, ()))
        heap = (young, ((0, (("young", 1), None)),), (("old", 0),), ((0, 0),))
        wanted = (((3, ()),), ((0, (("young", 0), None)),), (("old", 0),), ((0, 0),))
        self.gone_through(heap, wanted)

    def test_pointers_between_the_halves_follow(self):
        young = ((0, ()), (0, (("old", 2), ("young", 3))), (0, ()), (0, (("old", 1),)))
        old = ((0, ()), (0, (("young", 1),)), (0, (("old", 1), ("old", 2))))
        heap = (young, old, (("young", 3), 7, ("old", 2)), ((1, 0),))
        wanted = (
            ((0, (("old", 1), ("young", 1))), (0, (("old", 0),))),
            ((0, (("young", 0),)), (0, (("old", 0), ("old", 1)))),
            (("young", 1), 7, ("old", 1)),
            ((0, 0),),
        )
        self.gone_through(heap, wanted)

    def test_rings(self):
        young = ((0, ()), (1, (("young", 1),)), (2, (("old", 2),)))
        old = ((3, ()), (4, (("old", 1), 0)), (5, (("young", 2),)))
        book = ((2, 0),)
        self.gone_through(
            (young, old, (("young", 1),), book), (((1, (("young", 0),)),), (), (("young", 0),), ())
        )
        self.gone_through(
            (young, old, (("old", 1),), book), ((), ((4, (("old", 0), 0)),), (("old", 0),), ())
        )
        self.gone_through(
            (young, old, (("old", 2),), book),
            (((2, (("old", 0),)),), ((5, (("young", 0),)),), (("old", 0),), ((0, 0),)),
        )
        self.gone_through((young, old, (1,), book), ((), (), (1,), ()))

    def test_sharing_stays_and_things_alike_stay_two_things(self):
        young = ((0, ()), (0, (1,)), (0, (1,)))
        old = ((0, ()), (0, (("young", 2), ("young", 1), ("young", 2))), (0, (1,)), (0, (1,)))
        roots = (("old", 1), ("old", 1), ("old", 3), ("old", 2))
        wanted = (
            ((0, (1,)), (0, (1,))),
            ((0, (("young", 1), ("young", 0), ("young", 1))), (0, (1,)), (0, (1,))),
            (("old", 0), ("old", 0), ("old", 2), ("old", 1)),
            ((0, 0), (0, 1), (0, 2)),
        )
        self.gone_through((young, old, roots, ((1, 0), (1, 1), (1, 2))), wanted)

    def test_numbers_are_no_places(self):
        young = ((0, ()), (0, (0, 1, -1, MOST, -MOST, None)))
        heap = (young, (), (1, ("young", 1), 0, MOST), ())
        self.gone_through(heap, (((0, young[1][1]),), (), (1, ("young", 0), 0, MOST), ()))

    def test_a_chain_of_all_that_a_half_may_have(self):
        half = tuple((place, (("old", place + 1),)) for place in range(1999)) + ((1999, ()),)
        heap = ((), half, (("old", 0),), ())
        self.gone_through(heap, heap)
        left = tuple((place + 1000, (("old", place + 1),)) for place in range(999)) + ((1999, ()),)
        self.gone_through(((), half, (("old", 1000),), ()), ((), left, (("old", 0),), ()))

    def test_a_chain_that_goes_to_and_fro_between_full_halves(self):
        young = tuple((1, (("old", place),)) for place in range(2000))
        old = tuple((5, (("young", place + 1),)) for place in range(1999)) + ((5, ()),)
        book = tuple((place, 0) for place in range(1999))
        heap = (young, old, (("young", 0),) * 100, book)
        self.gone_through(heap, heap)
        wanted = (young[:1999], old[1:], (("old", 0),), book[:1998])
        moved = tuple((1, (("old", place + 1),)) for place in range(1999))
        now = tuple((5, (("young", place),)) for place in range(1999)) + ((5, ()),)
        wanted = (moved, now, (("old", 0),), tuple((place, 0) for place in range(1999)))
        self.gone_through((young, old, (("old", 0),), book), wanted)

    def test_full_halves_of_full_things(self):
        fields = tuple((("young", "old")[k % 2], k * 20) for k in range(100))
        heap = (((0, fields),) * 2000, ((7, fields),) * 2000, (("old", 20),) * 100, ())
        heap = heap[:3] + (naive.full_book(heap[1]),)
        now = tuple((("young", "old")[k % 2], k // 2) for k in range(100))
        book = tuple((place, k) for place in range(50) for k in range(0, 100, 2))
        wanted = (((0, now),) * 50, ((7, now),) * 50, (("old", 0),) * 100, book)
        self.gone_through(heap, wanted)


class ManyHeapsTest(MajorCase):
    def test_as_the_document_told_plainly(self):
        chance = random.Random(30)
        for _ in range(1500):
            heap = naive.chance_heap(chance)
            self.come(heap, naive.come_both(heap))
            self.gone_through(heap, naive.major(heap))

    def test_by_turns_with_minor_and_changes(self):
        chance = random.Random(31)
        for _ in range(150):
            heap = naive.chance_heap(chance)
            for _ in range(8):
                self.gone_through(heap, naive.major(heap))
                if chance.randrange(2):
                    heap = major(heap)
                heap = minor(heap, chance.randrange(4))
                heap, pointer = made(heap, (None, heap[2][0] if heap[2] else 5))
                if heap[2]:
                    heap = put(heap, pointer, 0, heap[2][-1])
                    heap = hold(heap, chance.randrange(len(heap[2])), pointer)


if __name__ == "__main__":
    unittest.main()
