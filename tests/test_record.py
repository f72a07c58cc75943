"""Promises 1 and 2 as the record keeps them: what no call of begin and the moves tells by itself."""

import unittest

from tests.helper import (
    ACCEPT, NO, PASS, REJECT, UNSURE, YES, ask, begin, drop, full_store, say, since, turn_over, why)
from twocommitted.record import ASKED, NOTHING, SAID, WHY_SO, Record
from twocommitted.talk import answer


def record_behind(calls):
    record = Record()
    for call in calls:
        answer(record, call)
    return record


def shown(record):
    return record.stores, record.mover, record.matter, record.topic, record.moves_made


NEW = (([], []), 0, NOTHING, 0, 0)


class Kept(unittest.TestCase):

    def assert_kept(self, calls, *expected):
        self.assertEqual(shown(record_behind(calls)), expected)

    def test_it_is_0s_turn_behind_a_begin(self):
        for m in (1, 2, 3):
            self.assert_kept([begin(m)], *NEW)

    def test_it_is_0s_turn_behind_a_second_begin(self):
        for midst in ([say(1)], [ask(1)], [say(1), why(1)], [say(1), ACCEPT, ask(1)], [say(1), ACCEPT]):
            self.assert_kept([begin(1)] + midst + [begin(2)], *NEW)

    def test_a_refused_begin_changes_nothing(self):
        for m in (0, 4):
            self.assert_kept([begin(2), say(12), begin(m)], ([12], []), 1, SAID, 12, 1)
            self.assertEqual(record_behind([begin(2), say(12), begin(m)]).letters, 2)

    def test_what_comes_is_the_last_of_the_store(self):
        self.assertEqual(record_behind(full_store()).stores[0], [254, 253, 251, 247, 239, 223])
        line = [begin(2), say(14), ACCEPT, say(12), why(12), since(4), ACCEPT]
        self.assert_kept(line, ([14, 12, 4], [14, 4]), 0, NOTHING, 0, 6)

    def test_a_drop_leaves_the_others_in_their_order(self):
        line = [begin(3), say(254), PASS, say(253), PASS, say(251), PASS, drop(253)]
        self.assert_kept(line, ([254, 251], []), 1, NOTHING, 0, 7)
        # What was taken back and said again comes last.
        self.assert_kept(line + turn_over(3) + [say(253)], ([254, 251, 253], []), 1, SAID, 253, 11)

    def test_each_move(self):
        said = [begin(2), say(12)]
        asked = [begin(2), ask(12)]
        reason = [begin(2), say(12), why(12)]
        self.assert_kept(said, ([12], []), 1, SAID, 12, 1)
        self.assert_kept(asked, ([], []), 1, ASKED, 12, 1)
        self.assert_kept(reason, ([12], []), 0, WHY_SO, 12, 2)
        self.assert_kept(said + [ACCEPT], ([12], [12]), 0, NOTHING, 0, 2)
        self.assert_kept(said + [REJECT], ([12], [3]), 0, SAID, 3, 2)
        self.assert_kept(said + [PASS], ([12], []), 0, NOTHING, 0, 2)
        self.assert_kept(said + [ACCEPT, why(12)], ([12], [12]), 1, WHY_SO, 12, 3)
        self.assert_kept(said + [ACCEPT, drop(12)], ([], [12]), 1, NOTHING, 0, 3)
        self.assert_kept(asked + [YES], ([], [12]), 0, SAID, 12, 2)
        self.assert_kept(asked + [NO], ([], [3]), 0, SAID, 3, 2)
        self.assert_kept(asked + [UNSURE], ([], []), 0, NOTHING, 0, 2)
        self.assert_kept(reason + [since(8)], ([12, 8], []), 1, SAID, 8, 3)
        self.assert_kept(reason + [drop(12)], ([], []), 1, NOTHING, 0, 3)
