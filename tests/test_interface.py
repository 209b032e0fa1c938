import inspect
import unittest

from coilticks import desk
from tests.helpers import KICKS, PLAIN, begin, now, soon, stands, ticks


def joined(*calls):
    return [number for call in calls for number in call]


CALLS = joined(begin(KICKS, 2), ticks(6, [(1, 2), (1, 7), (2, 10)], [(0, 5, 0, 1), (3, 0, 9, 2)]),
               stands(0), soon(9), now(), ticks(9, [(9, 0)]), begin("table"), now())


class Answers(unittest.TestCase):
    def test_its_name_and_argument(self):
        self.assertEqual(list(inspect.signature(desk.answers).parameters), ["calls"])

    def test_counts_before_answers(self):
        calls = joined(now(), begin(PLAIN, 1), ticks(2, [], [(0, 0, 0, 1)]), stands(0), soon(0), soon(3), soon(32),
                       now(), begin(""), begin(PLAIN, 0), ticks(0))
        found = [[1, -10], [1, 0], [3, 0, 1, 0], [3, 0, 0, 2], [2, 0, 2], [2, 0, 0], [1, -1],
                 [3, 0, 2, 0], [3, -6, 1, 0], [1, -1], [1, 0]]
        self.assertEqual(desk.answers(calls), joined(*found))

    def test_the_longest_standing(self):
        calls = joined(begin(PLAIN), ticks(2, [], [(0, 0, 0, 1), (1, 0, 0, 5)]), stands(0))
        self.assertEqual(desk.answers(calls)[-8:], [7, 0, 3, 2, 5, 1, 0, 0])

    def test_one_call(self):
        self.assertEqual(desk.answers([5]), [1, -10])

    def test_whole_numbers_alone(self):
        found = desk.answers(CALLS)
        self.assertEqual({kind.__name__ for kind in map(type, found)}, {"int"})
        self.assertEqual(type(found), list)

    def test_what_is_handed_in_is_as_it_was(self):
        calls = list(CALLS)
        desk.answers(calls)
        self.assertEqual(calls, CALLS)

    def test_what_is_handed_in_is_not_changed_for_a_while_either(self):
        class Watched(list):
            def refuse(self, *given):
                raise AssertionError("changed")

            append = extend = insert = pop = remove = clear = sort = reverse = refuse
            __setitem__ = __delitem__ = __iadd__ = __imul__ = refuse

        self.assertEqual(desk.answers(Watched(CALLS)), desk.answers(CALLS))

    def test_what_is_given_back_is_new(self):
        first = desk.answers(CALLS)
        kept = list(first)
        first.clear()
        self.assertEqual(desk.answers(CALLS), kept)

    def test_nothing_is_kept(self):
        first = desk.answers(CALLS)
        self.assertEqual(desk.answers(CALLS), first)
        self.assertEqual(desk.answers(joined(now(), ticks(1), soon(0), stands(0))), [1, -10] * 4)
        desk.answers(joined(begin(PLAIN), ticks(100)))
        self.assertEqual(desk.answers(CALLS), first)

    def test_as_many_calls_and_ticks_as_may_be(self):
        calls = joined(begin(PLAIN), *[ticks(4096, [], [(0, 1, 3, 1)])] * 20, *[now()] * 179)
        found = desk.answers(calls)
        self.assertEqual(found[-4:], [3, 0, 81920, 0])
        self.assertEqual(len(found), 2 + 20 * 4098 + 179 * 4)


if __name__ == "__main__":
    unittest.main()
