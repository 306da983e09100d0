import random
import unittest
from unittest import mock

from movecollect.heaps import sound
from movecollect.minor import minor
from movecollect.plays import play
from movecollect.shapes import shape
from tests import naive

MOST = naive.MOST
ROOMY = MOST
OFF = (-1, -2, -3, -4, -MOST, 4, 5, MOST)

# Roots 0 to 3: a thing of fields 7 and None, the same one, a number, a thing without fields.
SETTING = [
    ("make", 0, (7, None)),
    ("set", 1, ("root", 0)),
    ("set", 2, 5),
    ("make", 3, ()),
]
SET_UP = (
    ((0, (7, None)), (0, ())), (), (("young", 0), ("young", 0), 5, ("young", 1)), (),
)


class PlayCase(unittest.TestCase):
    def played(self, many, room, patience, deeds):
        before = repr(deeds)
        told = play(many, room, patience, deeds)
        self.assertEqual(repr(deeds), before)
        self.assertEqual((told.__class__, len(told)), (tuple, 2))
        answers, heap = told
        self.assertIs(answers.__class__, list)
        self.assertIsNot(answers, deeds)
        self.assertIs(sound(heap), True)
        return answers, heap

    def answers(self, many, deeds, wanted):
        """The answers hang neither on the room nor on the patience."""
        for room in (ROOMY, 0, 1, 2):
            for patience in (0, 1, 2, MOST):
                answers, _ = self.played(many, room, patience, deeds)
                # By repr: True and 1 are equal, and only one of them may be the answer.
                self.assertEqual(repr(answers), repr(wanted), (room, patience))

    def leaves(self, many, deeds, wanted):
        """The heap behind a play whose room is never too small."""
        _, heap = self.played(many, ROOMY, 2, deeds)
        self.assertEqual(heap, wanted)

    def refused(self, deed, wanted, setting=SETTING):
        """The deed is answered by the text and changes nothing, at any room."""
        for room in (ROOMY, 0, 1, 2):
            for patience in (0, 1, MOST):
                first, heap = self.played(4, room, patience, setting)
                answers, left = self.played(4, room, patience, setting + [deed])
                self.assertEqual(answers, first + [wanted], deed)
                self.assertEqual(left, heap, deed)


class StartTest(PlayCase):
    def test_no_deeds(self):
        self.assertEqual(self.played(0, 0, 0, []), ([], ((), (), (), ())))
        self.assertEqual(self.played(3, 5, 1, []), ([], ((), (), (None, None, None), ())))

    def test_roots_are_none_at_first(self):
        self.answers(2, [("look", 0), ("look", 1), ("look", 2)], [None, None, "no root"])

    def test_without_roots_nothing_but_going_through_can_be_done(self):
        deeds = [
            ("make", 0, ()), ("set", 0, 1), ("put", 0, 0, 1), ("take", 0, 0, 0), ("look", 0),
            ("same", 0, 0), ("minor",), ("major",),
        ]
        self.answers(0, deeds, ["no root"] * 6 + ["done"] * 2)
        self.leaves(0, deeds, ((), (), (), ()))

    def test_the_setting_of_these_tests(self):
        self.leaves(4, SETTING, SET_UP)
        self.answers(4, SETTING, ["done"] * 4)

    def test_a_second_play_starts_anew(self):
        self.assertEqual(play(4, 1, 1, SETTING), play(4, 1, 1, SETTING))


class MakeTest(PlayCase):
    def test_a_thing_of_numbers_and_none(self):
        self.leaves(
            2, [("make", 1, (None, MOST, -MOST, 0))],
            (((0, (None, MOST, -MOST, 0)),), (), (None, ("young", 0)), ()),
        )

    def test_no_parts(self):
        self.answers(1, [("make", 0, ()), ("look", 0)], ["done", ("thing", 0)])

    def test_parts_are_what_the_roots_hold(self):
        wanted = (
            SET_UP[0] + ((0, (5, ("young", 0), ("young", 0), ("young", 1), 9)),), (),
            (("young", 0), ("young", 0), ("young", 2), ("young", 1)), (),
        )
        parts = (("root", 2), ("root", 1), ("root", 0), ("root", 3), 9)
        self.leaves(4, SETTING + [("make", 2, parts)], wanted)

    def test_a_root_as_a_part_of_its_own_make(self):
        deeds = [("set", 0, 6)] + [("make", 0, (("root", 0), k)) for k in range(3)]
        wanted = (
            ((0, (6, 0)), (0, (("young", 0), 1)), (0, (("young", 1), 2))), (), (("young", 2),), (),
        )
        self.leaves(1, deeds, wanted)
        deeds += [("take", 0, 0, 0), ("take", 0, 0, 0), ("take", 0, 0, 0), ("look", 0)]
        self.answers(1, deeds, ["done"] * 7 + [6])

    def test_things_alike_are_two_things(self):
        deeds = [("make", 0, ()), ("make", 1, ()), ("same", 0, 1)]
        self.answers(2, deeds, ["done", "done", False])

    def test_no_root(self):
        for k in OFF:
            self.refused(("make", k, ()), "no root")
            self.refused(("make", k, (("root", 0), 3)), "no root")
            self.refused(("make", 0, (("root", k),)), "no root")
            self.refused(("make", 0, (1, ("root", 3), None, ("root", k))), "no root")
            self.refused(("make", 0, (("root", k), ("root", 3))), "no root")

    def test_the_last_root(self):
        self.answers(4, SETTING + [("make", 3, (("root", 3),)), ("look", 3)],
                     ["done"] * 5 + [("thing", 1)])


class SetTest(PlayCase):
    def test_none_and_numbers(self):
        for value in (None, 0, MOST, -MOST):
            self.leaves(4, SETTING + [("set", 0, value)],
                        (SET_UP[0], (), (value,) + SET_UP[2][1:], ()))

    def test_what_a_root_holds(self):
        young, _, roots, _ = SET_UP
        self.leaves(4, SETTING + [("set", 2, ("root", 3))],
                    (young, (), roots[:2] + (("young", 1), ("young", 1)), ()))
        self.leaves(4, SETTING + [("set", 0, ("root", 2))], (young, (), (5,) + roots[1:], ()))
        self.leaves(4, SETTING + [("set", 3, ("root", 3))], SET_UP)

    def test_a_part_stands_for_what_the_root_holds_then(self):
        deeds = [("set", 0, 1), ("set", 1, ("root", 0)), ("set", 0, 2), ("look", 1), ("look", 0)]
        self.answers(2, deeds, ["done"] * 3 + [1, 2])

    def test_no_root(self):
        for k in OFF:
            self.refused(("set", k, None), "no root")
            self.refused(("set", k, ("root", 0)), "no root")
            self.refused(("set", 0, ("root", k)), "no root")
            self.refused(("set", k, ("root", k)), "no root")


class PutTest(PlayCase):
    def test_a_field_of_a_young_thing(self):
        young, _, roots, _ = SET_UP
        for part, value in ((None, None), (-MOST, -MOST), (("root", 2), 5),
                            (("root", 3), ("young", 1)), (("root", 1), ("young", 0))):
            self.leaves(4, SETTING + [("put", 0, 1, part)],
                        (((0, (7, value)), young[1]), (), roots, ()))
            self.leaves(4, SETTING + [("put", 1, 0, part)],
                        (((0, (value, None)), young[1]), (), roots, ()))

    def test_seen_by_every_root_that_leads_there(self):
        deeds = SETTING + [("put", 0, 1, 8), ("take", 2, 1, 1), ("look", 2)]
        self.answers(4, deeds, ["done"] * 6 + [8])

    def test_a_field_of_an_old_thing_by_the_book(self):
        deeds = [
            ("make", 0, (1, 2)), ("minor",), ("minor",), ("minor",),
            ("make", 1, (3,)), ("put", 0, 1, ("root", 1)), ("set", 1, None),
        ]
        wanted = (
            ((0, (3,)),), ((2, (1, ("young", 0))),), (("old", 0), None), ((0, 1),),
        )
        self.leaves(2, deeds, wanted)
        deeds += [("minor",), ("take", 1, 0, 1), ("take", 1, 1, 0), ("look", 1)]
        self.answers(2, deeds, ["done"] * 10 + [3])
        self.leaves(2, deeds[:7] + [("put", 0, 1, None)],
                    (((0, (3,)),), ((2, (1, None)),), (("old", 0), None), ()))

    def test_no_root(self):
        for k in OFF:
            self.refused(("put", k, 0, 1), "no root")
            self.refused(("put", 0, 0, ("root", k)), "no root")

    def test_no_thing(self):
        self.refused(("put", 2, 0, 1), "no thing")
        self.refused(("put", 2, 0, 1), "no thing", SETTING + [("set", 2, None)])
        self.refused(("put", 2, 0, ("root", 0)), "no thing", SETTING + [("set", 2, 0)])

    def test_no_field(self):
        for f in (-1, -2, 2, 3, MOST, -MOST):
            self.refused(("put", 0, f, 1), "no field")
            self.refused(("put", 1, f, ("root", 0)), "no field")
        for f in (0, 1, -1, MOST):
            self.refused(("put", 3, f, None), "no field")

    def test_no_field_of_an_old_thing(self):
        setting = SETTING + [("minor",)] * 3
        self.refused(("put", 0, 2, ("root", 3)), "no field", setting)
        self.refused(("put", 0, -1, ("root", 3)), "no field", setting)

    def test_the_order_of_the_refusals(self):
        for k in OFF:
            self.refused(("put", k, -1, 1), "no root")
            self.refused(("put", 2, 0, ("root", k)), "no root")
            self.refused(("put", 2, -1, ("root", k)), "no root")
            self.refused(("put", 0, 2, ("root", k)), "no root")
        for f in (-1, 2, MOST):
            self.refused(("put", 2, f, 1), "no thing")


class TakeTest(PlayCase):
    def test_a_value(self):
        young, _, roots, _ = SET_UP
        self.leaves(4, SETTING + [("take", 2, 0, 0)],
                    (young, (), roots[:2] + (7, ("young", 1)), ()))
        self.leaves(4, SETTING + [("take", 3, 1, 1)], (young, (), roots[:3] + (None,), ()))

    def test_a_thing(self):
        deeds = SETTING + [
            ("put", 0, 1, ("root", 3)), ("take", 2, 0, 1), ("same", 2, 3), ("look", 2),
        ]
        self.answers(4, deeds, ["done"] * 6 + [True, ("thing", 0)])

    def test_into_the_root_that_leads_there(self):
        deeds = SETTING + [("take", 0, 0, 0), ("look", 0), ("look", 1)]
        self.answers(4, deeds, ["done"] * 5 + [7, ("thing", 2)])

    def test_no_root(self):
        for k in OFF:
            self.refused(("take", k, 0, 0), "no root")
            self.refused(("take", 0, k, 0), "no root")
            self.refused(("take", k, k, 0), "no root")

    def test_no_thing(self):
        self.refused(("take", 0, 2, 0), "no thing")
        self.refused(("take", 2, 2, 0), "no thing")
        self.refused(("take", 0, 2, 0), "no thing", SETTING + [("set", 2, None)])
        self.refused(("take", 0, 2, 0), "no thing", SETTING + [("set", 2, 0)])

    def test_no_field(self):
        for f in (-1, -2, 2, 3, MOST, -MOST):
            self.refused(("take", 2, 0, f), "no field")
            self.refused(("take", 0, 1, f), "no field")
        for f in (0, -1, MOST):
            self.refused(("take", 0, 3, f), "no field")

    def test_the_order_of_the_refusals(self):
        for k in OFF:
            self.refused(("take", k, 2, 0), "no root")
            self.refused(("take", k, 2, -1), "no root")
            self.refused(("take", k, 0, 2), "no root")
            self.refused(("take", k, 0, -1), "no root")
        for f in (-1, 2, MOST):
            self.refused(("take", 0, 2, f), "no thing")


class LookAndSameTest(PlayCase):
    def test_look(self):
        deeds = SETTING + [("look", 0), ("look", 1), ("look", 2), ("look", 3)]
        self.answers(4, deeds, ["done"] * 4 + [("thing", 2), ("thing", 2), 5, ("thing", 0)])
        self.leaves(4, deeds, SET_UP)

    def test_look_at_numbers_and_none(self):
        for value in (None, 0, 1, MOST, -MOST):
            self.answers(1, [("set", 0, value), ("look", 0)], ["done", value])

    def test_look_at_an_old_thing(self):
        deeds = [("make", 1, (1, 2, 3)), ("make", 0, ())] + [("minor",)] * 3
        deeds += [("look", 1), ("look", 0), ("put", 1, 0, ("root", 0)), ("major",), ("look", 1)]
        self.answers(2, deeds,
                     ["done"] * 5 + [("thing", 3), ("thing", 0), "done", "done", ("thing", 3)])

    def test_same(self):
        deeds = SETTING + [("same", 0, 1), ("same", 1, 0), ("same", 0, 0), ("same", 0, 3)]
        self.answers(4, deeds, ["done"] * 4 + [True, True, True, False])
        self.leaves(4, deeds, SET_UP)

    def test_same_without_pointers(self):
        deeds = SETTING + [("same", 2, 2), ("same", 0, 2), ("same", 2, 0), ("set", 0, 5)]
        deeds += [("same", 0, 2), ("set", 0, None), ("set", 2, None), ("same", 0, 2), ("same", 0, 0)]
        self.answers(4, deeds, ["done"] * 4 + [False] * 3 + ["done", False, "done", "done"]
                     + [False, False])

    def test_same_wherever_the_thing_lies(self):
        deeds = SETTING + [("minor",), ("same", 0, 1)] * 3 + [("make", 2, ()), ("same", 0, 2)]
        deeds += [("major",), ("same", 0, 1), ("same", 3, 0), ("same", 2, 3)]
        self.answers(4, deeds, ["done"] * 4 + ["done", True] * 3 + ["done", False]
                     + ["done", True, False, False])

    def test_no_root(self):
        for k in OFF:
            self.refused(("look", k), "no root")
            self.refused(("same", k, 0), "no root")
            self.refused(("same", 0, k), "no root")
            self.refused(("same", k, k), "no root")
            self.refused(("same", 2, k), "no root")
            self.refused(("same", k, 2), "no root")


class GoingThroughTest(PlayCase):
    def test_minor_with_the_play_s_patience(self):
        deeds = [("make", 0, (1,)), ("make", 1, (2,)), ("make", 1, (3,)), ("minor",)]
        roots = (("young", 0), ("young", 1))
        young = ((1, (1,)), (1, (3,)))
        for patience in (1, 2, MOST):
            self.assertEqual(play(2, ROOMY, patience, deeds), (["done"] * 4, (young, (), roots, ())))
        old = (((0, (1,)), (0, (3,))), (("old", 0), ("old", 1)))
        self.assertEqual(play(2, ROOMY, 0, deeds), (["done"] * 4, ((), old[0], old[1], ())))
        left = play(2, ROOMY, 1, deeds + [("make", 0, ()), ("minor",)])[1]
        self.assertEqual(left, (((1, ()),), ((1, (3,)),), (("young", 0), ("old", 0)), ()))

    def test_major(self):
        deeds = [("make", 0, ()), ("make", 1, ()), ("make", 2, ())] + [("minor",)] * 2
        deeds += [("set", 0, None), ("put", 1, 0, None), ("make", 0, ()), ("make", 0, (4,))]
        heap = play(3, ROOMY, 1, deeds)[1]
        self.assertEqual(heap, (((0, ()), (0, (4,))), ((1, ()),) * 3,
                                (("young", 1), ("old", 1), ("old", 2)), ()))
        answers, heap = self.played(3, ROOMY, 1, deeds + [("major",)])
        self.assertEqual(answers, ["done"] * 6 + ["no field"] + ["done"] * 3)
        self.assertEqual(heap, (((0, (4,)),), ((1, ()),) * 2,
                                (("young", 0), ("old", 0), ("old", 1)), ()))

    def test_major_goes_through_where_nothing_is_young(self):
        deeds = [("make", 0, ()), ("minor",), ("set", 0, 3), ("minor",)]
        self.assertEqual(play(1, ROOMY, 0, deeds)[1], ((), ((0, ()),), (3,), ()))
        self.assertEqual(play(1, ROOMY, 0, deeds + [("major",)])[1], ((), (), (3,), ()))


class RoomTest(PlayCase):
    def ages(self, room, patience, deeds, young, old, many=4):
        _, heap = self.played(many, room, patience, deeds)
        self.assertEqual([age for age, _ in heap[0]], young)
        self.assertEqual([age for age, _ in heap[1]], old)

    def test_gone_through_just_when_the_room_is_reached(self):
        deeds = [("make", k, ()) for k in range(4)]
        self.ages(5, 9, deeds, [0, 0, 0, 0], [])
        self.ages(4, 9, deeds, [0, 0, 0, 0], [])
        self.ages(3, 9, deeds, [1, 1, 1, 0], [])
        self.ages(2, 9, deeds, [2, 2, 1, 0], [])
        self.ages(1, 9, deeds, [3, 2, 1, 0], [])
        self.ages(0, 9, deeds, [3, 2, 1, 0], [])

    def test_a_room_of_nought_goes_through_ahead_of_the_first_make_too(self):
        deeds = [("make", 0, ())]
        self.ages(0, 0, deeds, [0], [])
        self.ages(0, 0, deeds + deeds, [0], [0])
        self.ages(1, 0, deeds + deeds, [0], [0])
        self.ages(2, 0, deeds + deeds, [0, 0], [])

    def test_with_the_play_s_patience(self):
        deeds = [("make", k, ()) for k in range(4)]
        self.ages(1, 0, deeds, [0], [0, 0, 0])
        self.ages(1, 1, deeds, [1, 0], [1, 1])
        self.ages(1, 2, deeds, [2, 1, 0], [2])
        self.ages(3, 0, deeds, [0], [0, 0, 0])
        self.ages(3, 1, deeds, [1, 1, 1, 0], [])

    def test_once_and_no_major(self):
        # What root 0 led to lies in the old half, and only both halves' going through ends it.
        deeds = [("make", 0, ()), ("make", 0, ()), ("make", 0, ())]
        self.ages(1, 0, deeds, [0], [0, 0], many=1)
        self.ages(1, 1, deeds, [1, 0], [], many=1)

    def test_made_whether_there_is_room_or_not(self):
        deeds = [("make", k, ()) for k in range(4)] + [("look", k) for k in range(4)]
        answers, heap = self.played(4, 0, MOST, deeds)
        self.assertEqual(answers, ["done"] * 4 + [("thing", 0)] * 4)
        self.assertEqual(len(heap[0]), 4)

    def test_what_is_gone_makes_room(self):
        deeds = [("make", 0, (k,)) for k in range(5)]
        self.ages(2, 9, deeds[:2], [0, 0], [], many=1)
        self.ages(2, 9, deeds[:3], [1, 0], [], many=1)
        self.ages(2, 9, deeds, [1, 0], [], many=1)

    def test_minor_and_major_make_room(self):
        deeds = [("make", 0, ()), ("make", 0, ()), ("major",), ("make", 1, ())]
        self.ages(2, 9, deeds, [0, 0], [])
        deeds = [("make", 0, ()), ("make", 0, ()), ("minor",), ("make", 1, ())]
        self.ages(2, 9, deeds, [1, 0], [])

    def test_no_other_deed_goes_through(self):
        deeds = [("make", 0, (1,)), ("set", 1, ("root", 0)), ("put", 0, 0, 2), ("take", 2, 0, 0),
                 ("look", 0), ("same", 0, 1)]
        self.ages(0, 9, deeds, [0], [])
        self.ages(1, 0, deeds, [0], [])

    def test_a_make_that_can_not_be_done_does_not_go_through(self):
        deeds = [("make", 0, ()), ("make", 4, ()), ("make", 0, (("root", 4),)),
                 ("make", 1, (("root", 0), ("root", -1))), ("make", -1, ())]
        answers, heap = self.played(4, 0, 9, deeds)
        self.assertEqual(answers, ["done"] + ["no root"] * 4)
        self.assertEqual(heap, (((0, ()),), (), (("young", 0), None, None, None), ()))
        self.ages(1, 0, deeds, [0], [])

    def test_how_often_it_is_gone_through(self):
        with mock.patch("movecollect.plays.minor", side_effect=minor) as through:
            self.played(2, 0, 1, [("make", 0, ()), ("make", 1, (("root", 0), ("root", 1)))])
            self.assertEqual(through.call_count, 2)
            for deed in (("make", 2, ()), ("make", -1, ()), ("make", 0, (("root", 2),)),
                         ("make", 0, (7, ("root", 0), ("root", -1)))):
                self.played(2, 0, 1, [deed])
            self.assertEqual(through.call_count, 2)
            self.played(2, 1, 1, [("make", 0, ()), ("make", 0, ()), ("minor",)])
            self.assertEqual(through.call_count, 4)

    def test_parts_stand_for_what_roots_hold_behind_that_going_through(self):
        deeds = [("make", 0, ()), ("make", 0, ()), ("make", 1, (("root", 0), 6, ("root", 0)))]
        # The first thing is gone, so the second one comes to place nought, or to the old half.
        self.assertEqual(play(2, 2, 9, deeds)[1], (
            ((1, ()), (0, (("young", 0), 6, ("young", 0)))), (), (("young", 0), ("young", 1)), (),
        ))
        self.assertEqual(play(2, 2, 0, deeds)[1], (
            ((0, (("old", 0), 6, ("old", 0))),), ((0, ()),), (("old", 0), ("young", 0)), (),
        ))
        self.assertEqual(play(2, 3, 0, deeds)[1], (
            ((0, ()), (0, ()), (0, (("young", 1), 6, ("young", 1)))), (),
            (("young", 1), ("young", 2)), (),
        ))

    def test_what_the_root_held_is_still_there_in_that_going_through(self):
        # The root is made to hold the new thing behind it, so the former one is not gone yet.
        deeds = [("make", 0, (1,)), ("make", 0, (2,))]
        self.assertEqual(play(1, 1, 9, deeds)[1],
                         (((1, (1,)), (0, (2,))), (), (("young", 1),), ()))

    def test_room_and_patience_of_sixty_figures(self):
        deeds = [("make", 0, ()), ("make", 1, (("root", 0),)), ("minor",)]
        self.ages(MOST, MOST, deeds, [1, 1], [])
        self.ages(0, MOST, deeds, [2, 1], [])
        self.ages(MOST, 0, deeds, [], [0, 0])


class LongPlayTest(PlayCase):
    def test_a_chain_by_a_thousand_deeds(self):
        deeds = [("make", 0, (("root", 0), k)) for k in range(1000)]
        for room in (0, 100, 999, ROOMY):
            for patience in (0, 1, MOST):
                answers, heap = self.played(1, room, patience, deeds)
                self.assertEqual(answers, ["done"] * 1000)
                things = tuple((("thing", k), 1000 - k) for k in range(1, 1000)) + ((None, 0),)
                self.assertEqual(shape(heap), ((("thing", 0),), things))

    def test_a_chain_that_is_gone_through_and_then_forgotten(self):
        deeds = [("make", 0, (("root", 0),)) for _ in range(990)]
        deeds += [("minor",), ("major",), ("set", 0, None), ("minor",)]
        self.assertEqual(len(play(1, 50, 0, deeds)[1][1]), 990)
        answers, heap = self.played(1, 50, 0, deeds + [("major",)])
        self.assertEqual((answers, heap), (["done"] * 995, ((), (), (None,), ())))

    def test_the_sizes_that_are_promised(self):
        parts = tuple(("root", j) for j in range(100))
        deeds = [("make", k % 100, parts) for k in range(900)]
        deeds += [("take", k, 99 - k, k) for k in range(50)] + [("look", k) for k in range(50)]
        told = [self.played(100, room, patience, deeds)
                for room, patience in ((ROOMY, 0), (0, MOST), (100, 2))]
        self.assertEqual([answers for answers, _ in told], [told[0][0]] * 3)
        self.assertEqual([shape(heap) for _, heap in told], [shape(told[0][1])] * 3)
        self.assertEqual([len(told[0][1][0]), len(told[1][1][0])], [900, 900])

    def test_put_after_put_into_an_old_thing(self):
        deeds = [("make", 0, (None,) * 100), ("minor",), ("make", 1, ())]
        deeds += [("put", 0, k % 100, ("root", 1)) for k in range(900, 0, -1)]
        _, heap = self.played(2, ROOMY, 0, deeds)
        self.assertEqual(heap[3], tuple((0, k) for k in range(100)))


class ManyPlaysTest(PlayCase):
    def test_as_the_document_told_plainly(self):
        chance = random.Random(50)
        for _ in range(250):
            many = chance.randrange(1, 5)
            deeds = [naive.chance_deed(chance, many) for _ in range(chance.randrange(60))]
            for room in (0, 1, 3, ROOMY):
                for patience in (0, 1, 3):
                    wanted = naive.play(many, room, patience, deeds)
                    told = self.played(many, room, patience, deeds)
                    self.assertEqual(repr(told), repr(wanted))

    def test_answers_hang_neither_on_room_nor_on_patience(self):
        chance = random.Random(51)
        words = set()
        for _ in range(60):
            many = chance.randrange(1, 5)
            deeds = [naive.chance_deed(chance, many) for _ in range(80)]
            wanted = play(many, ROOMY, 0, deeds)[0]
            words |= {repr(answer) for answer in wanted}
            self.answers(many, deeds, wanted)
            shapes = {shape(play(many, room, 2, deeds)[1]) for room in (0, 1, 2, 9, ROOMY)}
            self.assertEqual(len(shapes), 1)
        wanted = {"'done'", "'no root'", "'no thing'", "'no field'", "True", "False", "None"}
        self.assertEqual(wanted - words, set(), "the chance deeds meet every kind of answer")

    def test_without_the_going_through_the_answers_are_the_same(self):
        chance = random.Random(52)
        for _ in range(60):
            many = chance.randrange(1, 5)
            deeds = [naive.chance_deed(chance, many) for _ in range(80)]
            kept = [deed for deed in deeds if deed[0] not in ("minor", "major")]
            answers = play(many, 2, 1, deeds)[0]
            left = [x for deed, x in zip(deeds, answers) if deed[0] not in ("minor", "major")]
            self.assertEqual(play(many, ROOMY, 0, kept)[0], left)


if __name__ == "__main__":
    unittest.main()
