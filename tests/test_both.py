"""Promise 3: agreed, common and quarrel, which look at both stores."""

from tests.helper import (
    ACCEPT, AGREED, COMMON, NO, PASS, QUARREL, REJECT, TalkCase, ask, begin, drop, full_store, say, turn_over, why,
    with_stores)

SIX = [254, 253, 251, 247, 239, 223]


class AgreedAndCommon(TalkCase):

    def assert_worlds(self, line, agreed, common):
        self.assert_tells(line, AGREED, *agreed)
        self.assert_tells(line, COMMON, *common)

    def test_empty_stores(self):
        self.assert_worlds([begin(1)], (2, 3), (2, 3))
        self.assert_worlds([begin(2)], (4, 15), (4, 15))
        self.assert_worlds([begin(3)], (8, 255), (8, 255))

    def test_one_empty_store(self):
        self.assert_worlds([begin(2), say(12)], (2, 12), (4, 15))
        self.assert_worlds([begin(2), ask(8), NO], (3, 7), (4, 15))
        self.assert_worlds([begin(3), say(1)], (1, 1), (8, 255))

    def test_some_worlds_are_shared(self):
        self.assert_worlds(with_stores(2, [12], [10]), (1, 8), (3, 14))
        self.assert_worlds(with_stores(2, [14], [7]), (2, 6), (4, 15))
        self.assert_worlds(with_stores(3, [240, 204], [170]), (1, 128), (5, 234))
        self.assert_worlds([begin(2), say(12), ACCEPT], (2, 12), (2, 12))

    def test_none_is_shared(self):
        self.assert_worlds(with_stores(2, [12], [3]), (0, 0), (4, 15))
        self.assert_worlds(with_stores(2, [12], [1]), (0, 0), (3, 13))
        self.assert_worlds(with_stores(2, [12, 10], [7, 11]), (0, 0), (3, 11))
        self.assert_worlds(with_stores(1, [2], [1]), (0, 0), (2, 3))
        self.assert_worlds(with_stores(3, [128], [1]), (0, 0), (2, 129))

    def test_stores_of_six(self):
        self.assert_worlds(full_store(), (2, 192), (8, 255))
        self.assert_worlds(with_stores(3, SIX, SIX[::-1]), (2, 192), (2, 192))
        self.assert_worlds(with_stores(3, SIX, [127, 191, 223, 239, 247, 251]), (0, 0), (4, 195))

    def test_behind_a_drop(self):
        self.assert_worlds([begin(2), say(12), REJECT, why(3), drop(3)], (2, 12), (4, 15))
        self.assert_worlds([begin(2), say(12), PASS, say(8), PASS, drop(12)], (1, 8), (4, 15))


class Quarrel(TalkCase):

    def assert_quarrel(self, first, second, of_first, of_second, m=2):
        line = with_stores(m, first, second)
        for calls in (line, line + turn_over(m), line + [ask(1)]):
            self.assert_tells(calls, QUARREL, len(of_first), len(of_second), *of_first, *of_second)
            self.assert_tells(calls, AGREED, 0, 0)

    def test_both_allow_some_world(self):
        for m in (1, 2, 3):
            self.assert_tells([begin(m)], QUARREL, -33)
            self.assert_tells([begin(m), say(1)], QUARREL, -33)
            self.assert_tells([begin(m), say(1), ACCEPT], QUARREL, -33)
        for first, second in (([12], [10]), ([], [12, 10]), ([12, 10], []), ([12, 10], [14, 13])):
            self.assert_tells(with_stores(2, first, second), QUARREL, -33)
        self.assert_tells(full_store(), QUARREL, -33)
        self.assert_tells(with_stores(3, SIX, SIX[::-1]), QUARREL, -33)

    def test_one_of_each(self):
        self.assert_tells([begin(1), say(1), REJECT], QUARREL, 1, 1, 1, 2)
        self.assert_tells([begin(2), say(12), REJECT], QUARREL, 1, 1, 12, 3)
        self.assert_tells([begin(2), say(3), REJECT], QUARREL, 1, 1, 3, 12)
        self.assert_quarrel([14], [1], [14], [1])
        self.assert_quarrel([128], [1], [128], [1], 3)

    def test_one_of_each_among_others(self):
        self.assert_quarrel([14, 12], [7, 3], [12], [3])
        self.assert_quarrel([14, 12, 8], [3], [12], [3])
        self.assert_quarrel([12], [7, 11, 2], [12], [2])

    def test_more_of_one_than_of_the_other(self):
        self.assert_quarrel([12, 10], [7], [12, 10], [7])
        self.assert_quarrel([7], [12, 10], [7], [12, 10])
        self.assert_quarrel([10, 12], [7], [10, 12], [7])
        self.assert_quarrel([254, 253, 251], [7], [254, 253, 251], [7], 3)
        self.assert_quarrel([7], [251, 253, 254], [7], [251, 253, 254], 3)

    def test_two_of_each(self):
        self.assert_quarrel([14, 13], [11, 7], [14, 13], [11, 7])
        self.assert_quarrel([13, 14], [7, 11], [13, 14], [7, 11])

    def test_of_as_few_that_with_the_lesser_number(self):
        # 12 with 3, and 10 with 5: 12 and 10 count 1 and 2, 5 and 3 count 4 and 8.
        self.assert_quarrel([12, 10], [5, 3], [10], [5])
        self.assert_quarrel([12, 10], [3, 5], [12], [3])
        self.assert_quarrel([10, 12], [5, 3], [10], [5])
        self.assert_quarrel([10, 12], [3, 5], [12], [3])

    def test_with_stores_of_different_sizes(self):
        # 14, 12 and 10 count 1, 2 and 4; 5 and 3 count 8 and 16.
        self.assert_quarrel([14, 12, 10], [5, 3], [10], [5])
        # 12 and 10 count 1 and 2; 7, 5 and 3 count 4, 8 and 16.
        self.assert_quarrel([12, 10], [7, 5, 3], [10], [5])
        self.assert_quarrel([14, 10, 12], [7, 3, 5], [12], [3])
        # 3 goes together with neither 12 nor 8, of which 12 counts less.
        self.assert_quarrel([12, 8], [3], [12], [3])
        self.assert_quarrel([3], [12, 8], [3], [12])

    def test_the_same_in_both_stores(self):
        # 12 is in both: that of 0 counts less.
        self.assert_quarrel([12, 10], [12, 7], [12, 10], [7])
        self.assert_quarrel([10, 12], [7, 12], [10, 12], [7])

    def test_fewer_with_a_greater_number_go_ahead_of_more_with_a_lesser(self):
        # 12, 10 and 7 count 1, 2 and 4; 12 and 2 count 1 and 8.
        self.assert_quarrel([12, 10], [7, 2], [12], [2])
        self.assert_quarrel([14, 12, 10], [7, 1], [14], [1])

    def test_stores_of_six(self):
        other = [127, 191, 223, 239, 247, 251]
        # Six worlds go by six of 0's; the two that are left by the first two of 1's.
        self.assert_quarrel(SIX, other, SIX, [127, 191], 3)
        self.assert_quarrel(other, SIX, other, [254, 253], 3)
        self.assert_quarrel(SIX, [63], SIX, [63], 3)
        self.assert_quarrel([63], SIX, [63], SIX, 3)

    def test_taken_back_there_is_none(self):
        line = [begin(2), say(12), REJECT]
        self.assert_tells(line, QUARREL, 1, 1, 12, 3)
        self.assert_tells(line + [why(3), drop(3)], QUARREL, -33)

    def test_taken_back_but_another_one_is_left(self):
        line = with_stores(2, [12, 10], [5, 3]) + [drop(5)]
        self.assert_tells(line, QUARREL, 1, 1, 12, 3)
