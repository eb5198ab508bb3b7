"""What holds of every call: plain answers, nothing changed, nothing kept."""

import copy
import unittest

from planebook import desk
from samples import CALLS


def calls():
    """Each time with lists of their own, so that no test meets what another has changed."""
    return (
        (desk.form, (7, [0, 3, 5])), (desk.form, (31, [62, 4294967295, 4294967294])),
        (desk.form, (9, [0, 3, 5])), (desk.form, (7, [7, 0, 14])), (desk.form, (7, [])), (desk.form, (7, [1] * 9)),
        (desk.number, (7, [0, 3, 5])), (desk.number, (31, [62, 4294967295, 4294967294])),
        (desk.number, (2, [0, 3, 5])), (desk.number, (7, [7, 0, 14])), (desk.number, (7, [1, 2])),
        (desk.nth, (7, 0)), (desk.nth, (7, 1)), (desk.nth, (7, 8)), (desk.nth, (7, 57)), (desk.nth, (8, 57)),
        (desk.on, (7, [8, 16, 3], [4294967295, 1, 7])), (desk.on, (7, [7, 1, 0], [7, 7, 1])),
        (desk.on, (7, [8, 9, 10], [1, 1, 1])),
        (desk.on, (1, [8, 9, 10], [1, 1, 1])), (desk.on, (7, [7, 7, 7], [1, 1, 1])), (desk.on, (7, [1, 1, 1], [1])),
        (desk.join, (7, [8, 7, 14], [0, 4, 7])), (desk.join, (7, [8, 16, 3], [3, 6, 9])),
        (desk.join, (4, [8, 16, 3], [3, 6, 9])), (desk.join, (7, [8, 16, 3], [7, 7, 14])), (desk.join, (7, [], [1])),
        (desk.cross, (7, [8, 0, 7], [0, 2, 0], [3, 3, 0], [8, 3, 0])),
        (desk.cross, (7, [8, 0, 7], [0, 2, 0], [3, 3, 0], [3, 0, 0])),
        (desk.cross, (7, [8, 0, 7], [0, 2, 0], [3, 3, 0], [8, 3, 1])),
        (desk.cross, (7, [8, 0, 7], [0, 2, 0], [7, 0, 14], [8, 3, 0])),
        (desk.fourth, (7, 5, [8, 0, 7], [0, 2, 0], [3, 3, 0])), (desk.fourth, (7, 7, [9, 0, 7], [0, 2, 0], [3, 3, 0])),
        (desk.fourth, (7, 8, [8, 0, 7], [0, 2, 0], [3, 3, 0])), (desk.fourth, (7, 5, [8, 0, 7], [0, 2, 0], [3, 3])),
        (desk.map_of, (7, [8, 0, 0], [0, 1, 0], [0, 0, 2], [1, 1, 1], [1, 2, 3], [7, 1, 0], [0, 0, 1], [15, 1, 1])),
        (desk.map_of, (7, [8, 0, 0], [0, 1, 0], [0, 2, 0], [1, 1, 1], [1, 2, 3], [7, 1, 0], [0, 0, 1], [15, 1, 1])),
        (desk.map_of, (7, [8, 0, 0], [0, 1, 0], [0, 0, 2], [1, 1, 1], [1, 2, 3], [7, 1, 0], [0, 0, 1], [14, 7, 7])),
        (desk.behind, (7, [1, 2, 3, 0, 1, 4, 5, 6, 0], [0, 0, 8, 9, 0, 0, 7, 3, 14])),
        (desk.behind, (7, [1, 2, 3, 0, 1, 4, 5, 6, 0], [0, 0, 8, 9, 0, 0, 7, 7, 14])),
        (desk.back, (7, [1, 2, 3, 0, 1, 4, 5, 13, 7])), (desk.back, (7, [1, 2, 3, 0, 1, 4, 8, 9, 10])),
        (desk.image, (7, [1, 2, 3, 0, 1, 4, 5, 13, 7], [8, 9, 10])), (desk.image, (7, [1] * 9, [8, 9, 10])),
        (desk.image, (7, [1, 2, 3, 0, 1, 4, 5, 13, 7], [7, 7, 7])),
        (desk.carried, (7, [1, 2, 3, 0, 1, 4, 5, 13, 7], [8, 9, 10])), (desk.carried, (7, [1] * 9, [8, 9, 10])),
        (desk.carried, (6, [1, 2, 3, 0, 1, 4, 5, 13, 7], [8, 9, 10])),
        (desk.order, (7, [8, 7, 0, 0, 2, 0, 0, 0, 4])), (desk.order, (7, [8, 7, 0, 0, 1, 0, 14, 0, 1])),
        (desk.order, (7, [8, 7, 0, 0, 2, 0, 0, 0, 14])), (desk.order, (31, [0, 0, 3, 1, 31, 1, 0, 1, 0])),
        (desk.fixed, (7, [8, 7, 0, 0, 2, 0, 0, 0, 4])), (desk.fixed, (7, [8, 7, 0, 0, 1, 0, 14, 0, 1])),
        (desk.fixed, (7, [8, 7, 0, 0, 1, 0, 14, 0, 2])), (desk.fixed, (7, [8, 7, 0, 0, 2, 0, 0, 0, 14])),
        (desk.conic, (7, [1, 7, 8], [0, 8, 1], [6, 0, 1], [0, 6, 1], [9, 2, 1])),
        (desk.conic, (7, [1, 7, 8], [0, 8, 1], [6, 0, 1], [2, 14, 9], [9, 2, 1])),
        (desk.conic, (7, [1, 7, 8], [0, 8, 1], [6, 0, 1], [0, 6, 1], [7, 7, 7])),
        (desk.rank, (7, [8, 1, 6, 7, 0, 0])), (desk.rank, (7, [7, 1, 6, 7, 0, 0])), (desk.rank, (7, [7] * 6)),
        (desk.points, (7, [8, 1, 6, 7, 0, 0])), (desk.points, (7, [7, 1, 6, 7, 0, 0])), (desk.points, (7, [7] * 6)),
        (desk.polar, (7, [8, 1, 6, 7, 0, 0], [8, 9, 10])), (desk.polar, (7, [7, 1, 6, 7, 0, 0], [8, 9, 10])),
        (desk.polar, (7, [7, 1, 6, 7, 0, 0], [7, 0, 0])), (desk.pole, (7, [8, 1, 6, 7, 0, 0], [8, 9, 10])),
        (desk.pole, (7, [7, 1, 6, 7, 0, 0], [8, 9, 10])), (desk.pole, (7, [7, 1, 6, 7, 0, 0], [7, 0, 0])),
        (desk.crossed, (7, [8, 1, 6, 7, 0, 0], [7, 9, 0])), (desk.crossed, (7, [7, 1, 6, 7, 0, 0], [0, 8, 6])),
        (desk.crossed, (7, [7, 1, 6, 7, 0], [0, 8, 6])),
        (desk.touched, (7, [8, 1, 6, 7, 0, 0], [7, 8, 0])), (desk.touched, (7, [8, 1, 6, 7, 0, 0], [9, 7, 2])),
        (desk.touched, (7, [7, 1, 6, 7, 0, 0], [7, 8, 0])), (desk.touched, (7, [7, 1, 6, 7, 0, 0], [7, 7, 0])),
        (desk.shared, (7, [8, 1, 6, 7, 0, 0], [7, 1, 6, 7, 0, 0])), (desk.shared, (7, [8, 1, 6, 7, 0, 0], [7] * 6)),
        (desk.moved, (7, [1, 2, 3, 0, 1, 4, 5, 13, 7], [8, 1, 6, 7, 0, 0])),
        (desk.moved, (7, [1] * 9, [8, 1, 6, 7, 0, 0])), (desk.moved, (7, [1, 2, 3, 0, 1, 4, 5, 13, 7], [7] * 6)),
    )


class Sealed(list):
    """A list that lets nothing change it, not for a while either."""

    def refuse(self, *given):
        raise AssertionError("changed")

    append = clear = extend = insert = pop = remove = reverse = sort = refuse
    __setitem__ = __delitem__ = __iadd__ = __imul__ = refuse


class EveryCall(unittest.TestCase):
    def test_none_is_left_out(self):
        self.assertEqual({call.__name__ for call, given in calls()}, set(CALLS))

    def test_answers_are_lists_of_whole_numbers(self):
        for call, given in calls():
            answer = call(*given)
            self.assertIs(type(answer), list)
            for n in answer:
                self.assertIs(type(n), int, (call, given))

    def test_a_refusal_is_its_number_alone(self):
        for call, given in calls():
            answer = call(*given)
            self.assertIn(answer[0], (0, -1, -2, -3))
            self.assertEqual(answer[0] < 0, len(answer) == 1, (call, given))

    def test_what_is_handed_in_stays(self):
        for call, given in calls():
            before = copy.deepcopy(given)
            call(*given)
            self.assertEqual(given, before)

    def test_what_is_handed_in_is_not_changed_for_a_while_either(self):
        for call, given in calls():
            sealed = [Sealed(one) if isinstance(one, list) else one for one in given]
            self.assertEqual(call(*sealed), call(*given), (call, given))

    def test_the_same_lists_again_answer_the_same(self):
        for call, given in calls():
            self.assertEqual(call(*given), call(*given), (call, given))

    def test_in_another_order_they_answer_the_same(self):
        first = [call(*given) for call, given in calls()]
        second = [call(*given) for call, given in reversed(calls())]
        self.assertEqual(first, second[::-1])

    def test_what_was_answered_is_the_callers_own(self):
        for call, given in calls():
            answer = call(*given)
            kept = list(answer)
            answer.append(99)
            answer[0] = 98
            self.assertEqual(call(*given), kept, (call, given))

    def test_one_list_for_both(self):
        x = [1, 2, 3]
        self.assertEqual(desk.on(7, x, x), [0, 1])
        self.assertEqual(desk.on(5, x, x), [0, 0])
        self.assertEqual(desk.join(7, x, x), [-2])
        self.assertEqual(desk.cross(7, x, x, x, x), [-2])
        self.assertEqual(desk.fourth(7, 1, x, x, x), [-2])
        self.assertEqual(desk.map_of(7, x, x, x, x, x, x, x, x), [-2])
        self.assertEqual(desk.conic(7, x, x, x, x, x), [-2])
        self.assertEqual(x, [1, 2, 3])
        m = [0, 0, 1, 1, 0, 0, 0, 1, 0]
        self.assertEqual(desk.behind(7, m, m), [0, 0, 1, 0, 0, 0, 1, 1, 0, 0])
        self.assertEqual(desk.image(7, m, m), [-1])
        self.assertEqual(m, [0, 0, 1, 1, 0, 0, 0, 1, 0])
        k = [0, 1, 0, 0, 2, 0]
        self.assertEqual(desk.shared(3, k, k), [0, 4, 0, 0, 1, 1, 0, 0, 1, 1, 1, 1, 2, 1])
        self.assertEqual(k, [0, 1, 0, 0, 2, 0])

    def test_arguments_by_name(self):
        self.assertEqual(desk.form(p=7, x=[0, 3, 5]), [0, 0, 1, 4])
        self.assertEqual(desk.number(p=7, x=[0, 3, 5]), [0, 5])
        self.assertEqual(desk.nth(p=7, i=5), [0, 0, 1, 4])
        self.assertEqual(desk.on(p=7, x=[0, 3, 5], l=[1, 0, 0]), [0, 1])
        self.assertEqual(desk.join(p=7, x=[1, 0, 0], y=[0, 1, 0]), [0, 0, 0, 1])
        self.assertEqual(desk.cross(p=7, a=[1, 0, 0], b=[0, 1, 0], c=[1, 1, 0], d=[1, 3, 0]), [0, 5])
        self.assertEqual(desk.fourth(p=7, r=5, a=[1, 0, 0], b=[0, 1, 0], c=[1, 1, 0]), [0, 1, 3, 0])
        self.assertEqual(desk.map_of(p=7, a=[1, 0, 0], b=[0, 1, 0], c=[0, 0, 1], d=[1, 1, 1],
                                     e=[1, 2, 3], f=[0, 1, 0], g=[0, 0, 1], h=[1, 1, 1]),
                         [0, 1, 0, 0, 2, 6, 0, 3, 0, 5])
        turn, shear = [0, 0, 1, 1, 0, 0, 0, 1, 0], [1, 2, 0, 0, 1, 0, 0, 0, 1]
        self.assertEqual(desk.behind(p=7, m=turn, n=shear), [0, 0, 0, 1, 1, 2, 0, 0, 1, 0])
        self.assertEqual(desk.back(p=7, m=shear), [0, 1, 5, 0, 0, 1, 0, 0, 0, 1])
        self.assertEqual(desk.image(p=7, m=shear, x=[0, 1, 0]), [0, 1, 4, 0])
        self.assertEqual(desk.carried(p=7, m=shear, l=[1, 0, 0]), [0, 1, 5, 0])
        self.assertEqual(desk.order(p=7, m=shear), [0, 7])
        self.assertEqual(desk.fixed(p=7, m=shear), [0, 1, 0, 1, 0, 0])
        self.assertEqual(desk.conic(p=7, a=[1, 0, 1], b=[0, 1, 1], c=[6, 0, 1], d=[0, 6, 1], e=[2, 2, 1]),
                         [0, 1, 1, 6, 0, 0, 0])
        circle = [1, 1, 6, 0, 0, 0]
        self.assertEqual(desk.rank(p=7, k=circle), [0, 3])
        self.assertEqual(desk.points(p=7, k=circle), [0, 8])
        self.assertEqual(desk.polar(p=7, k=circle, x=[1, 0, 1]), [0, 1, 0, 6])
        self.assertEqual(desk.pole(p=7, k=circle, l=[1, 0, 6]), [0, 1, 0, 1])
        self.assertEqual(desk.crossed(p=7, k=circle, l=[1, 0, 0]), [0, 2, 0, 1, 1, 0, 1, 6])
        self.assertEqual(desk.touched(p=7, k=circle, x=[1, 0, 1]), [0, 1, 1, 0, 6])
        self.assertEqual(desk.shared(p=7, j=circle, k=[1, 0, 0, 0, 0, 0]), [0, 2, 0, 1, 1, 0, 1, 6])
        self.assertEqual(desk.moved(p=7, m=shear, k=[1, 0, 0, 0, 0, 0]), [0, 1, 4, 0, 0, 0, 3])


if __name__ == "__main__":
    unittest.main()
