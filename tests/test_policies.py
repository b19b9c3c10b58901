"""Point 63: the policies."""

import random
import unittest
from fractions import Fraction
from functools import cmp_to_key

from helpers import GREATEST, LAYOUTS, LEAST, MIDDLE, live_log, whole_state
from segmentfs.room import policies
from segmentfs.room.policies import POLICIES, order_candidates
from segmentfs.room.segments import ages, candidates, live_counts


def plain_order(log, policy):
    """Return the candidates as the table of point 63 orders them, pair by pair."""
    payload = log.layout.payload
    live = live_counts(log)
    age = ages(log)

    def benefit(segment):
        return Fraction((payload - live[segment]) * age[segment], payload + live[segment])

    def goes_before(one, other):
        if policy == "greedy":
            return live[one] < live[other]
        if policy == "oldest":
            return age[one] > age[other]
        return benefit(one) > benefit(other)

    def compare(one, other):
        if goes_before(one, other):
            return -1
        return 1 if goes_before(other, one) else one - other

    return sorted(candidates(log), key=cmp_to_key(compare))


class PoliciesTest(unittest.TestCase):
    def test_names(self):
        self.assertEqual(POLICIES, ("greedy", "oldest", "cost-benefit"))
        self.assertEqual(policies.POLICIES, POLICIES)

    def test_no_candidates(self):
        for layout in LAYOUTS:
            for policy in POLICIES:
                log = live_log(layout, [0, layout.payload])
                self.assertEqual(order_candidates(log, policy), [])

    def test_only_candidates_are_listed(self):
        log = live_log(LEAST, [0, 1, 14, 15], head=2, queue=[0])
        for policy in POLICIES:
            self.assertEqual(sorted(order_candidates(log, policy)), [1, 2])

    def test_one_candidate(self):
        for policy in POLICIES:
            self.assertEqual(order_candidates(live_log(LEAST, [0, 0, 3, 0]), policy), [2])

    def test_greedy(self):
        log = live_log(LEAST, [9, 5, 0, 3], head=3, queue=[2])
        self.assertEqual(order_candidates(log, "greedy"), [3, 1, 0])

    def test_greedy_does_not_look_at_ages(self):
        log = live_log(LEAST, [2, 1, 3, 1], sequences=[1, 100, 1, 100])
        self.assertEqual(order_candidates(log, "greedy"), [1, 3, 0, 2])

    def test_equal_live_counts(self):
        log = live_log(MIDDLE, [4, 3, 4, 3, 4, 3, 18], sequences=[1, 9, 2, 8, 3, 7, 5], head=6)
        self.assertEqual(order_candidates(log, "greedy"), [1, 3, 5, 0, 2, 4])

    def test_oldest(self):
        log = live_log(LEAST, [1, 9, 14, 2], sequences=[8, 3, 5, 1])
        self.assertEqual(order_candidates(log, "oldest"), [3, 1, 2, 0])

    def test_equal_ages(self):
        log = live_log(MIDDLE, [1, 9, 3, 8, 4, 7, 18], sequences=[5, 4, 5, 4, 5, 4, 9], head=6)
        self.assertEqual(order_candidates(log, "oldest"), [1, 3, 5, 0, 2, 4])

    def test_cost_benefit(self):
        # The last sequence number is 100; 14 * 10 / 16, 5 * 60 / 25, 1 * 99 / 29 and 10 * 20 / 20.
        log = live_log(LEAST, [1, 10, 14, 5], sequences=[90, 40, 1, 80])
        log.last_sequence = 100
        self.assertEqual(order_candidates(log, "cost-benefit"), [1, 3, 0, 2])

    def test_equal_quotients(self):
        # 14 * 104 / 16 and 13 * 119 / 17 are both 91.
        for lives, years in (([1, 2, 1, 0], [104, 119, 104, 0]), ([2, 1, 2, 0], [119, 104, 119, 0])):
            log = live_log(LEAST, lives, sequences=[1000 - age for age in years], head=3)
            self.assertEqual(order_candidates(log, "cost-benefit"), [0, 1, 2])

    def test_age_0(self):
        log = live_log(LEAST, [9, 3, 14, 1], sequences=[7, 7, 7, 7])
        for policy in ("oldest", "cost-benefit"):
            self.assertEqual(order_candidates(log, policy), [0, 1, 2, 3])

    def test_quotients_that_differ_by_less_than_any_rounding(self):
        # 14 * a / 16 and 13 * b / 17 differ by 1 / 136 for 119 * a - 104 * b = 1, however great a and b are.
        first = next(a for a in range(104) if (119 * a - 1) % 104 == 0)
        for scale in (0, 2 ** 30, 2 ** 38, 2 ** 39 + 1):
            older = first + 104 * scale
            younger = (119 * older - 1) // 104
            for lives, years in (([1, 2], [older, younger]), ([2, 1], [younger, older])):
                log = live_log(LEAST, lives + [0, 0], sequences=[2 ** 50 - age for age in years] + [2 ** 50, 0], head=3)
                self.assertEqual(order_candidates(log, "cost-benefit"), [lives.index(1), lives.index(2)])
                years[lives.index(1)] -= 1
                log = live_log(LEAST, lives + [0, 0], sequences=[2 ** 50 - age for age in years] + [2 ** 50, 0], head=3)
                self.assertEqual(order_candidates(log, "cost-benefit"), [lives.index(2), lives.index(1)])

    def test_head_is_ordered_like_the_others(self):
        log = live_log(LEAST, [3, 1, 2, 4], sequences=[3, 1, 2, 4], head=1)
        for policy in POLICIES:
            self.assertEqual(order_candidates(log, policy), [1, 2, 0, 3])

    def test_random_logs(self):
        for seed in range(300):
            chance = random.Random(seed)
            layout = (LEAST, MIDDLE, GREATEST)[seed % 3]
            most = chance.choice((3, layout.payload))
            lives = [chance.randrange(most + 1) for _ in range(layout.segments)]
            while sum(lives) > layout.last_id:
                lives[lives.index(max(lives))] = 0
            greatest = chance.choice((4, 50, 2 ** 45))
            sequences = [chance.randrange(greatest) for _ in range(layout.segments)]
            log = live_log(layout, lives, sequences=sequences, head=chance.randrange(layout.segments))
            before = whole_state(log)
            for policy in POLICIES:
                self.assertEqual(order_candidates(log, policy), plain_order(log, policy), (seed, policy))
            self.assertEqual(whole_state(log), before)


if __name__ == "__main__":
    unittest.main()
