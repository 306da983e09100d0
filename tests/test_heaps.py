import random
import unittest

from movecollect.errors import HeapError, NoField, NoRoot, NoThing
from movecollect.heaps import field, hold, made, put, sound, started
from tests import naive

MOST = naive.MOST

# Two young things, three old ones: a ring across the halves, things alike, one without fields.
HEAP = (
    ((0, (("old", 0), None)), (3, ())),
    (
        (MOST, (5, ("young", 0), ("young", 1))),
        (2, (("old", 1), -MOST)),
        (2, (("young", 1), ("old", 2), ("young", 1))),
    ),
    (("old", 0), None, ("young", 0)),
    ((0, 1), (0, 2), (2, 0), (2, 2)),
)

LEADS_NOWHERE = (
    ("young", -1), ("young", -2), ("young", 2), ("young", 3), ("young", MOST), ("young", -MOST),
    ("old", -1), ("old", -3), ("old", 3), ("old", 4), ("old", MOST), ("old", -MOST),
)
NO_POINTERS = (None, 0, 1, -1, MOST, -MOST)
OFF_BELOW = (-1, -2, -3, -4, -MOST)


class HeapCase(unittest.TestCase):
    def refused(self, kind, call, *given):
        before = repr(given)
        with self.assertRaises(HeapError) as caught:
            call(*given)
        self.assertIs(caught.exception.__class__, kind, given)
        self.assertEqual(repr(given), before)

    def answered(self, call, *given):
        before = repr(given)
        answer = call(*given)
        self.assertEqual(repr(given), before)
        return answer


class StartedTest(HeapCase):
    def test_no_things_and_roots_of_none(self):
        self.assertEqual(started(3), ((), (), (None, None, None), ()))

    def test_no_roots(self):
        self.assertEqual(started(0), ((), (), (), ()))

    def test_many_roots(self):
        heap = started(100)
        self.assertEqual(heap, ((), (), (None,) * 100, ()))
        self.assertIs(sound(heap), True)


class SoundTest(HeapCase):
    def sound_is(self, wanted, heap):
        self.assertIs(self.answered(sound, heap), wanted, heap)

    def test_sound_heaps(self):
        self.sound_is(True, HEAP)
        self.sound_is(True, ((), (), (), ()))
        self.sound_is(True, ((), (), (None, 4, -MOST), ()))

    def test_a_root_that_leads_to_nothing(self):
        young, old, roots, book = HEAP
        for value in LEADS_NOWHERE:
            for k in range(len(roots)):
                self.sound_is(False, (young, old, roots[:k] + (value,) + roots[k + 1:], book))

    def test_a_root_with_no_thing_in_either_half(self):
        for word in ("young", "old"):
            for place in (0, -1, 1, MOST):
                self.sound_is(False, ((), (), (None, (word, place)), ()))

    def test_the_last_place_leads_and_the_next_does_not(self):
        alone = ((0, ()),)
        self.sound_is(True, (alone, (), (("young", 0),), ()))
        self.sound_is(False, (alone, (), (("young", 1),), ()))
        self.sound_is(False, (alone, (), (("old", 0),), ()))
        self.sound_is(True, ((), alone, (("old", 0),), ()))
        self.sound_is(False, ((), alone, (("old", 1),), ()))
        self.sound_is(False, ((), alone, (("young", 0),), ()))

    def test_a_field_that_leads_to_nothing(self):
        young, old, roots, book = HEAP
        for value in LEADS_NOWHERE:
            self.sound_is(False, (young[:1] + ((0, (1, value)),), old, roots, book))
            grown = old + ((0, (None, value)),)
            pair = ((3, 1),) if value[0] == "young" else ()
            if value != ("old", 3):
                self.sound_is(False, (young, grown, roots, book + pair))

    def test_things_that_nothing_leads_to_are_looked_at(self):
        self.sound_is(False, (((0, (("old", 0),)),), (), (), ()))
        self.sound_is(True, (((0, (("young", 0),)),), (), (), ()))
        self.sound_is(True, (((0, (3,)), (9, ())), ((1, ()),), (), ()))

    def test_a_book_that_lacks_a_pair(self):
        young, old, roots, book = HEAP
        for at in range(len(book)):
            self.sound_is(False, (young, old, roots, book[:at] + book[at + 1:]))
        self.sound_is(False, (young, old, roots, ()))

    def test_a_book_with_a_pair_too_many(self):
        young, old, roots, book = HEAP
        for pair in ((0, 0), (0, 3), (0, -1), (-1, 0), (1, 0), (2, 1), (3, 0), (MOST, -MOST)):
            self.sound_is(False, (young, old, roots, tuple(sorted(book + (pair,)))))

    def test_a_book_with_a_pair_twice(self):
        young, old, roots, book = HEAP
        for at in range(len(book)):
            self.sound_is(False, (young, old, roots, book[:at] + book[at:at + 1] + book[at:]))

    def test_a_book_out_of_order(self):
        young, old, roots, _ = HEAP
        self.sound_is(False, (young, old, roots, ((0, 2), (0, 1), (2, 0), (2, 2))))
        self.sound_is(False, (young, old, roots, ((0, 1), (2, 0), (0, 2), (2, 2))))
        self.sound_is(False, (young, old, roots, ((2, 0), (2, 2), (0, 1), (0, 2))))

    def test_a_book_by_field_before_place(self):
        young = ((0, ()),)
        old = ((0, (None, ("young", 0))), (0, (("young", 0),)))
        self.sound_is(True, (young, old, (), ((0, 1), (1, 0))))
        self.sound_is(False, (young, old, (), ((1, 0), (0, 1))))

    def test_fields_of_young_things_are_not_in_the_book(self):
        young = ((0, (("young", 0),)),)
        self.sound_is(True, (young, (), (), ()))
        self.sound_is(False, (young, (), (), ((0, 0),)))

    def test_pointers_to_old_things_are_not_in_the_book(self):
        old = ((0, (("old", 0),)),)
        self.sound_is(True, ((), old, (), ()))
        self.sound_is(False, ((), old, (), ((0, 0),)))

    def test_the_sizes_that_are_promised(self):
        young = tuple((place, (("young", place + 1),)) for place in range(1999)) + ((0, ()),)
        old = tuple((place, (("young", place),) * 100) for place in range(2000))
        book = tuple((place, k) for place in range(2000) for k in range(100))
        roots = (("old", 1999),) * 100
        self.assertIs(sound((young, old, roots, book)), True)
        self.assertIs(sound((young, old, roots, book[:-1])), False)
        self.assertIs(sound((young[:-1], old, roots, book)), False)


class FieldTest(HeapCase):
    def test_fields_of_both_halves(self):
        self.assertEqual(self.answered(field, HEAP, ("young", 0), 0), ("old", 0))
        self.assertIsNone(self.answered(field, HEAP, ("young", 0), 1))
        self.assertEqual(self.answered(field, HEAP, ("old", 0), 0), 5)
        self.assertEqual(self.answered(field, HEAP, ("old", 1), 1), -MOST)
        self.assertEqual(self.answered(field, HEAP, ("old", 2), 2), ("young", 1))

    def test_a_number_of_no_field(self):
        for k in OFF_BELOW + (2, 3, MOST):
            self.refused(NoField, field, HEAP, ("young", 0), k)
        for k in OFF_BELOW + (3, 4, MOST):
            self.refused(NoField, field, HEAP, ("old", 0), k)

    def test_a_thing_of_no_fields(self):
        for k in OFF_BELOW + (0, 1, MOST):
            self.refused(NoField, field, HEAP, ("young", 1), k)

    def test_what_leads_to_no_thing(self):
        for value in LEADS_NOWHERE + NO_POINTERS:
            self.refused(NoThing, field, HEAP, value, 0)
        for value in NO_POINTERS + (("young", 0), ("old", 0), ("old", -1)):
            self.refused(NoThing, field, started(2), value, 0)

    def test_no_thing_comes_before_no_field(self):
        for value in LEADS_NOWHERE + NO_POINTERS:
            for k in (-1, 3, MOST):
                self.refused(NoThing, field, HEAP, value, k)


class MadeTest(HeapCase):
    def test_a_new_thing_comes_behind_all_young_ones(self):
        young, old, roots, book = HEAP
        fields = (None, MOST, ("young", 1), ("old", 2), ("young", 1))
        answer = self.answered(made, HEAP, fields)
        self.assertEqual(answer, ((young + ((0, fields),), old, roots, book), ("young", 2)))
        self.assertIs(sound(answer[0]), True)

    def test_things_alike_are_two_things(self):
        first, one = self.answered(made, started(1), ())
        second, two = self.answered(made, first, ())
        self.assertEqual((one, two), (("young", 0), ("young", 1)))
        self.assertEqual(second, (((0, ()), (0, ())), (), (None,), ()))

    def test_a_field_that_leads_to_nothing(self):
        for value in LEADS_NOWHERE:
            self.refused(NoThing, made, HEAP, (value,))
            self.refused(NoThing, made, HEAP, (None, ("old", 0), value))
            self.refused(NoThing, made, HEAP, (value, 4))

    def test_a_thing_does_not_yet_lead_to_itself(self):
        self.refused(NoThing, made, started(0), (("young", 0),))

    def test_many_fields_and_many_things(self):
        heap = started(0)
        for place in range(2000):
            heap, pointer = made(heap, (pointer,) * 100 if place else (None,) * 100)
            self.assertEqual(pointer, ("young", place))
        self.assertEqual(heap[0][1999], (0, (("young", 1998),) * 100))
        self.assertIs(sound(heap), True)


class HoldTest(HeapCase):
    def test_a_root_holds_any_value(self):
        young, old, roots, book = HEAP
        for value in NO_POINTERS + (("young", 0), ("young", 1), ("old", 0), ("old", 2)):
            for k in range(3):
                wanted = (young, old, roots[:k] + (value,) + roots[k + 1:], book)
                self.assertEqual(self.answered(hold, HEAP, k, value), wanted)

    def test_a_number_of_no_root(self):
        for k in OFF_BELOW + (3, 4, MOST):
            self.refused(NoRoot, hold, HEAP, k, None)
        for k in (0, -1, 1, MOST):
            self.refused(NoRoot, hold, started(0), k, 1)

    def test_a_value_that_leads_to_nothing(self):
        for value in LEADS_NOWHERE:
            for k in range(3):
                self.refused(NoThing, hold, HEAP, k, value)

    def test_no_root_comes_before_no_thing(self):
        for value in LEADS_NOWHERE:
            for k in (-1, 3, MOST):
                self.refused(NoRoot, hold, HEAP, k, value)

    def test_the_last_of_a_hundred_roots(self):
        self.assertEqual(hold(started(100), 99, 1)[2], (None,) * 99 + (1,))
        self.refused(NoRoot, hold, started(100), 100, 1)


class PutTest(HeapCase):
    def test_a_field_of_a_young_thing(self):
        young, old, roots, book = HEAP
        for value in (None, -MOST, ("young", 0), ("young", 1), ("old", 2)):
            answer = self.answered(put, HEAP, ("young", 0), 1, value)
            wanted = ((0, (("old", 0), value)), young[1])
            self.assertEqual(answer, (wanted, old, roots, book))

    def test_the_age_stays(self):
        heap = put(HEAP, ("old", 0), 0, 6)
        self.assertEqual(heap[1][0], (MOST, (6, ("young", 0), ("young", 1))))
        heap = put((((7, (1, 2)),), (), (), ()), ("young", 0), 0, 3)
        self.assertEqual(heap, (((7, (3, 2)),), (), (), ()))

    def put_books(self, place, k, value, wanted):
        young, old, roots, _ = HEAP
        answer = self.answered(put, HEAP, ("old", place), k, value)
        age, fields = old[place]
        changed = (age, fields[:k] + (value,) + fields[k + 1:])
        grown = old[:place] + (changed,) + old[place + 1:]
        self.assertEqual(answer, (young, grown, roots, wanted))
        self.assertIs(sound(answer), True)

    def test_the_book_gains_a_pair_in_its_order(self):
        self.put_books(0, 0, ("young", 0), ((0, 0), (0, 1), (0, 2), (2, 0), (2, 2)))
        self.put_books(1, 0, ("young", 1), ((0, 1), (0, 2), (1, 0), (2, 0), (2, 2)))
        self.put_books(1, 1, ("young", 1), ((0, 1), (0, 2), (1, 1), (2, 0), (2, 2)))
        self.put_books(2, 1, ("young", 0), ((0, 1), (0, 2), (2, 0), (2, 1), (2, 2)))

    def test_the_book_loses_a_pair(self):
        for value in (None, 0, MOST, ("old", 0)):
            self.put_books(0, 1, value, ((0, 2), (2, 0), (2, 2)))
            self.put_books(0, 2, value, ((0, 1), (2, 0), (2, 2)))
            self.put_books(2, 0, value, ((0, 1), (0, 2), (2, 2)))
            self.put_books(2, 2, value, ((0, 1), (0, 2), (2, 0)))

    def test_the_book_keeps_its_pairs(self):
        self.put_books(0, 1, ("young", 1), HEAP[3])
        self.put_books(2, 2, ("young", 0), HEAP[3])
        self.put_books(0, 0, ("old", 0), HEAP[3])
        self.put_books(1, 0, None, HEAP[3])
        self.put_books(2, 1, -1, HEAP[3])

    def test_the_first_and_the_last_pair_of_a_book(self):
        heap = (((0, ()),), ((0, (None,)),), (), ())
        told = put(heap, ("old", 0), 0, ("young", 0))
        self.assertEqual(told, (heap[0], ((0, (("young", 0),)),), (), ((0, 0),)))
        self.assertEqual(put(told, ("old", 0), 0, None), heap)

    def test_the_pointer_that_leads_to_no_thing(self):
        for pointer in LEADS_NOWHERE + NO_POINTERS:
            self.refused(NoThing, put, HEAP, pointer, 0, 1)

    def test_a_number_of_no_field(self):
        for k in OFF_BELOW + (2, 3, MOST):
            self.refused(NoField, put, HEAP, ("young", 0), k, None)
        for k in OFF_BELOW + (3, 4, MOST):
            self.refused(NoField, put, HEAP, ("old", 2), k, ("young", 0))
        for k in OFF_BELOW + (0, 1, MOST):
            self.refused(NoField, put, HEAP, ("young", 1), k, None)

    def test_a_value_that_leads_to_nothing(self):
        for value in LEADS_NOWHERE:
            self.refused(NoThing, put, HEAP, ("young", 0), 0, value)
            self.refused(NoThing, put, HEAP, ("old", 2), 2, value)

    def test_the_order_of_the_refusals(self):
        for pointer in LEADS_NOWHERE + NO_POINTERS:
            self.refused(NoThing, put, HEAP, pointer, -1, None)
            self.refused(NoThing, put, HEAP, pointer, MOST, ("old", 9))
        for value in LEADS_NOWHERE:
            self.refused(NoField, put, HEAP, ("young", 1), 0, value)
            self.refused(NoField, put, HEAP, ("old", 0), -1, value)

    def test_any_put_leaves_a_sound_heap(self):
        chance = random.Random(7)
        for _ in range(40):
            heap = naive.chance_heap(chance)
            sizes = (len(heap[0]), len(heap[1]))
            for _ in range(30):
                word = chance.choice(("young", "old"))
                half = heap[("young", "old").index(word)]
                place, k = chance.randrange(9), chance.randrange(4)
                if place < len(half) and k < len(half[place][1]):
                    value = naive.chance_value(chance, *sizes)
                    heap = self.answered(put, heap, (word, place), k, value)
                    self.assertEqual(field(heap, (word, place), k), value)
                    self.assertEqual(heap[3], naive.full_book(heap[1]))

    def test_the_sizes_that_are_promised(self):
        old = tuple((0, (("young", place),) * 100) for place in range(2000))
        young = ((0, ()),) * 2000
        book = tuple((place, k) for place in range(2000) for k in range(100))
        heap = (young, old, (), book)
        for place in (0, 1000, 1999):
            for k in (0, 50, 99):
                at = place * 100 + k
                less = put(heap, ("old", place), k, None)
                self.assertEqual(less[3], book[:at] + book[at + 1:])
                self.assertEqual(put(less, ("old", place), k, ("young", place)), heap)


class ChangesTest(HeapCase):
    def test_a_ring_across_both_halves_step_by_step(self):
        heap = (((0, (None,)),), ((4, (None, None)),), (None, None), ())
        heap = put(heap, ("young", 0), 0, ("old", 0))
        heap = put(heap, ("old", 0), 1, ("young", 0))
        heap = hold(heap, 1, ("old", 0))
        wanted = (
            ((0, (("old", 0),)),), ((4, (None, ("young", 0))),), (None, ("old", 0)), ((0, 1),),
        )
        self.assertEqual(heap, wanted)
        self.assertIs(sound(heap), True)

    def test_a_thing_that_leads_to_itself(self):
        heap, pointer = made(started(1), (None, None))
        heap = put(hold(heap, 0, pointer), pointer, 1, pointer)
        self.assertEqual(heap, (((0, (None, pointer)),), (), (pointer,), ()))
        self.assertEqual(field(heap, field(heap, pointer, 1), 1), pointer)


if __name__ == "__main__":
    unittest.main()
