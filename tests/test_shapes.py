import random
import unittest

from movecollect.heaps import sound, started
from movecollect.major import major
from movecollect.minor import minor
from movecollect.shapes import shape
from tests import naive

MOST = naive.MOST


def thing(number):
    return ("thing", number)


class ShapeCase(unittest.TestCase):
    def shape_is(self, heap, wanted):
        before = repr(heap)
        self.assertIs(sound(heap), True, "the test's own heap")
        answer = shape(heap)
        self.assertEqual(answer, wanted)
        for row in (answer,) + answer + answer[1]:
            self.assertIs(row.__class__, tuple)
        self.assertEqual(repr(heap), before)
        for patience in (0, 1, 3):
            self.assertEqual(shape(minor(heap, patience)), wanted)
            self.assertEqual(shape(minor(major(heap), patience)), wanted)
        self.assertEqual(shape(major(heap)), wanted)


class ShapeTest(ShapeCase):
    def test_nothing_there(self):
        self.shape_is(started(0), ((), ()))
        self.shape_is(started(2), ((None, None), ()))

    def test_numbers_and_none_are_told_as_they_are(self):
        heap = (((0, (MOST, None, 0)),), (), (-MOST, ("young", 0), 0, None), ())
        self.shape_is(heap, ((-MOST, thing(0), 0, None), ((MOST, None, 0),)))

    def test_what_is_not_come_to_is_not_told(self):
        young = ((0, (("young", 1),)), (0, ()), (0, (4,)))
        old = ((0, (("young", 0), ("old", 0))), (3, (5, ("young", 2))))
        heap = (young, old, (None, ("old", 1)), ((0, 0), (1, 1)))
        self.shape_is(heap, ((None, thing(0)), ((5, thing(1)), (4,))))
        self.shape_is((young, old, (None, 3), ((0, 0), (1, 1))), ((None, 3), ()))

    def test_ages_and_places_are_not_told(self):
        one = (((0, ()), (7, (1,))), (), (("young", 1),), ())
        other = ((), ((2, (1,)), (2, (2,))), (("old", 0),), ())
        self.shape_is(one, ((thing(0),), ((1,),)))
        self.shape_is(other, ((thing(0),), ((1,),)))

    def test_things_alike_are_two_things(self):
        young = ((0, ()), (0, ()), (0, (("young", 0), ("young", 1), ("young", 0))))
        heap = (young, (), (("young", 0), ("young", 1), ("young", 2)), ())
        wanted = ((thing(0), thing(1), thing(2)), ((), (), (thing(0), thing(1), thing(0))))
        self.shape_is(heap, wanted)

    def test_alike_in_both_halves_at_one_place(self):
        heap = (((0, (1,)),), ((0, (1,)),), (("old", 0), ("young", 0), ("old", 0)), ())
        self.shape_is(heap, ((thing(0), thing(1), thing(0)), ((1,), (1,))))

    def test_a_thing_met_twice_keeps_its_number(self):
        young = ((0, (5,)), (0, (("young", 0), ("young", 1))))
        heap = (young, (), (("young", 1), ("young", 0), ("young", 1)), ())
        self.shape_is(heap, ((thing(0), thing(1), thing(0)), ((thing(1), thing(0)), (5,))))

    def test_roots_come_before_fields(self):
        young = ((0, (("young", 1),)), (0, (1,)), (0, (2,)))
        heap = (young, (), (("young", 0), ("young", 2)), ())
        self.shape_is(heap, ((thing(0), thing(1)), ((thing(2),), (2,), (1,))))

    def test_fields_of_one_thing_after_the_other(self):
        # Numbers as they are met: 0 is the root's, 1 and 2 its fields', then those of 1, of 2.
        young = (
            (0, (("young", 1),)),
            (0, (66,)),
            (0, (("young", 3), ("young", 4))),
            (0, (55,)),
            (0, (("young", 0),)),
            (0, (7, ("young", 2), ("old", 0))),
        )
        old = ((0, (("young", 4), None)),)
        heap = (young, old, (("young", 5),), ((0, 0),))
        wanted = (
            (thing(0),),
            (
                (7, thing(1), thing(2)),
                (thing(3), thing(4)),
                (thing(4), None),
                (55,),
                (thing(5),),
                (thing(6),),
                (66,),
            ),
        )
        self.shape_is(heap, wanted)

    def test_rings(self):
        young = ((0, (("young", 0),)), (0, (("old", 0),)))
        heap = (young, ((0, (0, ("young", 1))),), (("young", 1), 1, ("young", 0)), ((0, 1),))
        wanted = ((thing(0), 1, thing(1)), ((thing(2),), (thing(1),), (0, thing(0))))
        self.shape_is(heap, wanted)

    def test_a_chain_of_all_that_a_half_may_have(self):
        young = tuple((place % 3, (("young", place + 1),)) for place in range(1999)) + ((0, ()),)
        wanted = ((thing(0),), tuple((thing(place + 1),) for place in range(1999)) + ((),))
        self.shape_is((young, (), (("young", 0),), ()), wanted)
        back = ((0, ()),) + tuple((0, (("young", place),)) for place in range(1999))
        self.shape_is((back, (), (("young", 1999),), ()), wanted)

    def test_full_halves_of_full_things(self):
        fields = tuple(("old", place * 20) for place in range(100))
        heap = (((0, fields),) * 2000, ((0, fields),) * 2000, (("young", 3),) * 100, ())
        wanted = ((thing(0),) * 100, (tuple(thing(place + 1) for place in range(100)),) * 101)
        self.shape_is(heap, wanted)


class ManyHeapsTest(ShapeCase):
    def test_as_the_document_told_plainly(self):
        chance = random.Random(40)
        for _ in range(1500):
            heap = naive.chance_heap(chance)
            self.shape_is(heap, naive.shape(heap))


if __name__ == "__main__":
    unittest.main()
