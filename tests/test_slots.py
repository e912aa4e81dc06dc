"""The calls begin, spread and told, the refusals, and how a list of calls is handed in and answered."""

import unittest

from helper import HIGHEST, LOWEST, NO_SLOTS, apart, ask, begin, behind, everything, give, image, in_set, last, mix
from helper import plan, same, spread, tested, told
from throwntogether.ground import answers


def each_but_begin(k, row):
    """One of each call but begin, with that number for each of its slots, and that row."""
    return [spread(k, row), told(k), apart(k, k), plan(k, k), tested(k, k, 1, row), behind(k, k, k), image(k, k, row),
            mix(k, k, k, 1, 1), same(k, k), in_set(k, 1), give(k, k)]


class BeginTest(unittest.TestCase):
    def test_all_spreads_surely_point_0(self):
        for n in range(1, 7):
            found = ask(begin(n), told(0), told(1), told(2), told(3))
            self.assertEqual(found[0], [0])
            for answer in found[1:]:
                self.assertEqual(answer, [n, 1, 1] + [0, 1] * (n - 1))

    def test_wrong_numbers_of_points(self):
        for n in (0, 7, -1, 8, LOWEST, HIGHEST):
            self.assertEqual(ask(begin(n)), [[-22]])

    def test_a_refused_begin_leaves_the_ground(self):
        for n in (0, 7, LOWEST, HIGHEST):
            found = ask(begin(2), spread(3, [1, 2]), begin(n), told(3), told(0))
            self.assertEqual(found, [[0], [0], [-22], [2, 1, 3, 2, 3], [2, 1, 1, 0, 1]])

    def test_another_begin_makes_a_new_ground(self):
        self.assertEqual(last(begin(2), spread(0, [1, 2]), begin(2), told(0)), [2, 1, 1, 0, 1])
        self.assertEqual(last(begin(2), spread(0, [1, 2]), begin(3), told(0)), [3, 1, 1, 0, 1, 0, 1])
        self.assertEqual(last(begin(6), spread(0, [1] * 6), begin(1), told(0)), [1, 1, 1])
        self.assertEqual(last(begin(6), begin(1), spread(0, [1] * 6)), [-22])


class NotBegunTest(unittest.TestCase):
    def test_all_but_begin_before_a_begin(self):
        calls = each_but_begin(0, [1])
        self.assertEqual(ask(*calls), [[-11]] * 11)
        self.assertEqual(ask(*calls, begin(1), *calls),
                         [[-11]] * 11 + [[0], [0], [1, 1, 1], [0, 0, 1], [1, 1, 1, 0, 1], [1, 0, 1], [1, 1, 1, 0, 1],
                                         [-22], [0], [1], [0, 1, 1], [0]])

    def test_a_refused_begin_is_none(self):
        self.assertEqual(ask(begin(0), told(0), begin(7), told(0), begin(1), told(0)),
                         [[-22], [-11], [-22], [-11], [0], [1, 1, 1]])

    def test_all_after_a_refused_begin(self):
        for n in (0, 7, LOWEST, HIGHEST):
            self.assertEqual(ask(begin(n), *each_but_begin(0, [0])), [[-22]] + [[-11]] * 11)

    def test_ahead_of_all_other_refusals(self):
        for k in NO_SLOTS:
            self.assertEqual(ask(*each_but_begin(k, [])), [[-11]] * 11)
        self.assertEqual(ask(spread(0, []), tested(0, 0, 0, []), image(0, 0, []), mix(0, 0, 0, 1, 0), in_set(0, -1)),
                         [[-11]] * 5)


class NoSlotTest(unittest.TestCase):
    def test_all_but_begin_and_nothing_changes(self):
        for k in NO_SLOTS:
            calls = [begin(2), spread(0, [1, 2]), spread(1, [1, 3]), spread(2, [1, 4]), spread(3, [1, 5])]
            found = ask(*calls, *each_but_begin(k, [1, 0]), *everything())[5:]
            self.assertEqual(found[:11], [[-2]] * 11)
            self.assertEqual(found[11:], [[2, 1, 3, 2, 3], [2, 1, 4, 3, 4], [2, 1, 5, 4, 5], [2, 1, 6, 5, 6]])


class SpreadTest(unittest.TestCase):
    def test_chances_have_nothing_in_common(self):
        found = ask(begin(4), spread(1, [2, 4, 0, 6]), told(1))
        self.assertEqual(found, [[0], [0], [4, 1, 6, 1, 3, 0, 1, 1, 2]])
        self.assertEqual(last(begin(2), spread(0, [3, 5]), told(0)), [2, 3, 8, 5, 8])
        self.assertEqual(last(begin(2), spread(0, [0, 7]), told(0)), [2, 0, 1, 1, 1])

    def test_each_slot_has_its_own(self):
        found = ask(begin(2), spread(0, [1, 1]), spread(1, [1, 2]), spread(2, [1, 3]), spread(3, [1, 4]),
                    told(0), told(1), told(2), told(3))
        self.assertEqual(found[5:], [[2, 1, 2, 1, 2], [2, 1, 3, 2, 3], [2, 1, 4, 3, 4], [2, 1, 5, 4, 5]])

    def test_a_spread_takes_an_earlier_ones_place(self):
        found = ask(begin(2), spread(0, [1, 1]), spread(0, [0, 1]), told(0), told(1))
        self.assertEqual(found[3:], [[2, 0, 1, 1, 1], [2, 1, 1, 0, 1]])

    def test_one_point_and_six_points(self):
        self.assertEqual(last(begin(1), spread(0, [20]), told(0)), [1, 1, 1])
        self.assertEqual(last(begin(6), spread(0, [20, 0, 1, 19, 10, 10]), told(0)),
                         [6, 1, 3, 0, 1, 1, 60, 19, 60, 1, 6, 1, 6])

    def test_numbers_at_the_edges(self):
        self.assertEqual(ask(begin(2), spread(0, [0, 20]), spread(0, [20, 20]), spread(0, [1, 0])), [[0]] * 4)
        for number in (-1, 21, LOWEST, HIGHEST):
            self.assertEqual(last(begin(2), spread(0, [number, 1])), [-22])
            self.assertEqual(last(begin(2), spread(0, [1, number])), [-22])
        self.assertEqual(last(begin(2), spread(0, [-1, 2])), [-22])

    def test_all_are_0(self):
        for n in range(1, 7):
            self.assertEqual(last(begin(n), spread(0, [0] * n)), [-22])

    def test_not_a_number_for_each_point(self):
        for n in range(1, 7):
            for length in list(range(0, 9)) + [70]:
                expected = [0] if length == n else [-22]
                self.assertEqual(last(begin(n), spread(0, [1] * length)), expected)

    def test_a_number_too_many_is_not_made_good_by_a_wrong_one(self):
        self.assertEqual(last(begin(2), spread(0, [1, 2, 21])), [-22])
        self.assertEqual(last(begin(2), spread(0, [-1, 1, 2])), [-22])

    def test_a_refusal_changes_nothing(self):
        for row in ([], [1], [1, 2, 3], [0, 0], [21, 1], [1, -1], [1] * 70):
            found = ask(begin(2), spread(2, [1, 3]), spread(2, row), told(2), spread(4, [1, 1]), told(2))
            self.assertEqual(found[2:], [[-22], [2, 1, 4, 3, 4], [-2], [2, 1, 4, 3, 4]])

    def test_no_slot(self):
        for k in NO_SLOTS:
            self.assertEqual(last(begin(2), spread(k, [1, 1])), [-2])
            self.assertEqual(last(begin(2), told(k)), [-2])

    def test_no_slot_goes_first(self):
        for k in NO_SLOTS:
            for row in ([], [0, 0], [1, 21], [1] * 70, [LOWEST, HIGHEST]):
                self.assertEqual(last(begin(2), spread(k, row)), [-2])


class ListTest(unittest.TestCase):
    def test_each_answer_has_its_count_before_it(self):
        line = [1, 0, 1, 5, 0, 2, 1, 0, 2, 2, 4, 2, 0, 1, 9, 0, 2, 0, 3, 0, 1]
        told_numbers = [5, 2, 1, 3, 2, 3]
        self.assertEqual(answers(line), [1, -11, 1, 0, 1, 0] + told_numbers + [1, -2] + told_numbers + [3, 2, 2, 3])

    def test_nothing_is_kept(self):
        line = begin(2) + spread(0, [1, 2]) + told(0)
        before = answers(line)
        self.assertEqual(answers(told(0)), [1, -11])
        self.assertEqual(answers(begin(2) + told(0)), [1, 0, 5, 2, 1, 1, 0, 1])
        self.assertEqual(answers(begin(7) + told(0)), [1, -22, 1, -11])
        self.assertEqual(answers(line), before)

    def test_what_is_given_back_is_new_each_time(self):
        line = begin(1) + told(0)
        answers(line).clear()
        self.assertEqual(answers(line), [1, 0, 3, 1, 1, 1])

    def test_what_is_handed_in_is_not_changed(self):
        line = begin(2) + spread(0, [2, 4]) + spread(1, [4, 2]) + told(0) + apart(0, 1) + plan(0, 1)
        line = line + tested(0, 1, 3, [1, 0, 1, 1]) + spread(0, [1]) + tested(0, 1, 0, []) + begin(7) + told(4)
        line = line + behind(0, 1, 2) + image(0, 2, [1, 0]) + image(0, 2, [2, 0]) + mix(0, 1, 3, 1, 3) + same(0, 3)
        line = line + in_set(3, 2) + in_set(3, 4) + give(0, 1) + told(0) + told(1) + told(2) + told(3)
        before = list(line)
        answers(line)
        self.assertEqual(line, before)

    def test_the_list_is_only_read(self):
        class OnlyRead(list):
            def refuse(self, *arguments):
                raise AssertionError("the list was to be changed")

            append = clear = extend = insert = pop = remove = reverse = sort = refuse
            __setitem__ = __delitem__ = __iadd__ = __imul__ = refuse

        line = begin(2) + spread(0, [2, 4]) + plan(0, 1) + tested(0, 1, 3, [1, 0, 2, 0]) + behind(0, 1, 0)
        line = line + image(0, 0, [1, 0]) + mix(0, 1, 2, 3, 4) + same(0, 2) + in_set(2, 3) + give(2, 1) + told(1)
        self.assertEqual(answers(OnlyRead(line)), answers(line))

    def test_sixty_calls(self):
        self.assertEqual(ask(begin(1), *[told(0)] * 59), [[0]] + [[1, 1, 1]] * 59)
        self.assertEqual(ask(*[told(0)] * 60), [[-11]] * 60)
        self.assertEqual(len(last(begin(6), *[plan(0, 1)] * 59)), 1 + 2 * 37)

    def test_sixty_calls_with_the_longest_rows(self):
        row = [LOWEST, HIGHEST] * 35
        line = begin(6) + tested(0, 1, HIGHEST, row) * 30 + spread(0, row) * 15 + image(0, 1, row) * 14
        self.assertEqual(answers(line), [1, 0] + [1, -22] * 59)

    def test_rows_of_none(self):
        self.assertEqual(ask(begin(1), spread(0, []), tested(0, 0, 1, []), image(0, 0, []), told(0)),
                         [[0], [-22], [-22], [-22], [1, 1, 1]])

    def test_numbers_are_whole_numbers_alone(self):
        line = begin(2) + spread(0, [1, 1]) + told(0) + apart(0, 1) + plan(0, 1)
        line = line + tested(0, 1, 2, [1, 0, 1, 0]) + tested(0, 1, 2, [0, 0, 0, 0]) + told(9)
        line = line + behind(0, 1, 0) + image(0, 2, [1, 0]) + mix(0, 2, 3, 1, 2) + same(0, 3) + same(1, 3)
        line = line + in_set(3, 0) + in_set(3, 3) + give(3, 0)
        found = answers(line)
        self.assertIs(type(found), list)
        self.assertEqual({type(number) for number in found}, {int})


if __name__ == "__main__":
    unittest.main()
