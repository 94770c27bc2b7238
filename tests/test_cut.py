"""A cut and point 9: markers and records that come, work that is recorded, and what a whole cut tells."""

import unittest

from tests.helper import (GREATEST, IDLE, SMALLEST, SNAPSHOT, TOLD, CallCase, begin, cut, each, host_behind, last,
                          marker, message, newly_sent, record, recorded, sent, state, take, work)

# Host 0 of 2 has a cut that is whole: the other's state is [5].
WHOLE_OF_2 = [begin(0, 2, 1), state([1, 2]), SNAPSHOT, message(1, marker(0, 1)), message(1, record(1, 0, [5]))]
TOLD_OF_2 = recorded(0, [1, 2]) + recorded(0, [5])


class OwnCut(CallCase):
    def test_two_hosts(self):
        self.assertEqual(last(*WHOLE_OF_2, cut()), [len(TOLD_OF_2)] + TOLD_OF_2)

    def test_state_as_it_was_when_it_began(self):
        calls = [begin(0, 2, 1), state([1]), SNAPSHOT, state([2]), message(1, marker(0, 1)), state([3]),
                 message(1, record(1, 0, []))]
        self.assertEqual(last(*calls, cut())[1:], recorded(0, [1]) + recorded(0, []))

    def test_work_until_the_way_is_closed(self):
        calls = [begin(1, 3, 0), message(0, work(1)), SNAPSHOT, message(0, work(2)), message(2, work(3, 3)),
                 message(0, marker(1, 1)), message(0, work(4)), message(2, work()), message(2, marker(1, 1)),
                 message(2, work(5)), message(0, work(6)), message(0, record(1, 0, [])), message(2, record(1, 0, []))]
        self.assertEqual(last(*calls, cut())[1:],
                         recorded(0, []) + recorded(0, [], (0, [2]), (2, [3, 3]), (2, [])) + recorded(0, []))

    def test_nothing_goes_out_when_it_ends(self):
        before = [begin(1, 3, 0), SNAPSHOT, message(0, marker(1, 1))]
        self.assertEqual(newly_sent(before, message(2, marker(1, 1))), [])

    def test_a_way_closed_twice(self):
        before = [begin(1, 3, 0), SNAPSHOT, message(0, marker(1, 1))]
        self.same_behind(before, message(0, marker(1, 1)), [0])

    def test_marker_of_another_number(self):
        for number in (0, 2, 257, 16777217, 4294967295):
            self.same_behind([begin(0, 2, 0), SNAPSHOT], message(1, marker(0, number)), [0])

    def test_marker_of_an_own_cut_that_is_not_under_way(self):
        for number in (0, 1, 2):
            self.same_behind([begin(0, 2, 0)], message(1, marker(0, number)), [0])
            self.same_behind([begin(0, 3, 0)], message(1, marker(0, number)), [0])
            self.same_behind([begin(0, 2, 0), SNAPSHOT, message(1, marker(0, 1))], message(1, marker(0, number)), [0])
            self.same_behind(WHOLE_OF_2, message(1, marker(0, number)), [0])

    def test_records_come_ahead_of_the_own_one(self):
        calls = [begin(0, 2, 0), SNAPSHOT, message(1, record(1, 0, [5])), message(1, work(8)), message(1, marker(0, 1))]
        self.assertEqual(last(*calls, cut())[1:], recorded(0, [], (1, [8])) + recorded(0, [5]))

    def test_64_and_65_works(self):
        for how_many, too_much in ((63, 0), (64, 0), (65, 1), (70, 1)):
            works = [(1 + number % 2, [number]) for number in range(how_many)]
            calls = ([begin(0, 3, 0), SNAPSHOT] + [message(sender, work(*row)) for sender, row in works]
                     + [message(1, marker(0, 1)), message(2, marker(0, 1))]
                     + [message(1, record(1, 0, [])), message(2, record(1, 0, []))])
            self.assertEqual(last(*calls, cut())[1:], recorded(too_much, [], *works[:64]) + recorded(0, []) * 2)
            self.assertEqual(last(*calls, TOLD)[6], how_many)

    def test_work_on_a_closed_way_is_never_too_much(self):
        calls = ([begin(0, 3, 0), SNAPSHOT] + [message(1, work())] * 64 + [message(1, marker(0, 1)), message(1, work())]
                 + [message(2, marker(0, 1)), message(1, record(1, 0, [])), message(2, record(1, 0, []))])
        self.assertEqual(last(*calls, cut())[1:], recorded(0, [], *[(1, [])] * 64) + recorded(0, []) * 2)


class Records(CallCase):
    BEFORE = [begin(1, 3, 0), SNAPSHOT, message(0, marker(1, 1)), message(2, marker(1, 1))]

    def test_in_the_order_of_the_hosts(self):
        first = message(0, record(1, 0, [7], (2, [9])))
        second = message(2, record(1, 1, []))
        whole = recorded(0, [7], (2, [9])) + recorded(0, []) + recorded(1, [])
        self.assertEqual(last(*self.BEFORE, first, second, cut()), [len(whole)] + whole)
        self.assertEqual(last(*self.BEFORE, second, first, cut()), [len(whole)] + whole)

    def test_of_another_number(self):
        for number in (0, 2, 257, 65537, 16777217, 4294967295):
            self.same_behind(self.BEFORE, message(0, record(number, 0, [7])), [0])
            self.same_behind(WHOLE_OF_2 + [SNAPSHOT], message(1, record(1, 0, [7])), [0])

    def test_a_second_of_the_same_host(self):
        before = self.BEFORE + [message(0, record(1, 0, [7]))]
        self.same_behind(before, message(0, record(1, 0, [8])), [0])
        self.refused_behind(before + [message(0, record(1, 0, [8]))], cut(), -3)
        self.assertEqual(last(*before, message(0, record(1, 0, [8])), message(2, record(1, 0, [9])), cut())[1:],
                         recorded(0, [7]) + recorded(0, []) + recorded(0, [9]))
        self.same_behind(WHOLE_OF_2, message(1, record(1, 0, [8])), [0])

    def test_without_a_cut(self):
        for number in (0, 1, 2):
            self.same_behind([begin(0, 2, 0)], message(1, record(number, 0, [7])), [0])
            calls = [begin(0, 2, 0), message(1, record(number, 0, [7]))]
            self.refused_behind(calls, cut(), -3)
            self.refused_behind(calls + [SNAPSHOT, message(1, marker(0, 1))], cut(), -3)

    def test_the_own_one_is_needed(self):
        before = [begin(1, 3, 0), SNAPSHOT, message(0, record(1, 0, [])), message(2, record(1, 0, [])),
                  message(0, marker(1, 1))]
        self.refused_behind(before, cut(), -3)
        self.refused_behind(before, SNAPSHOT, -3)
        self.assertEqual(last(*before, message(2, marker(1, 1)), cut()), [9] + recorded(0, []) * 3)

    def test_they_send_nothing(self):
        self.assertEqual(newly_sent(self.BEFORE, message(0, record(1, 0, [7])), message(2, record(1, 0, [7]))), [])

    def test_their_works_are_not_taken_as_works(self):
        self.assertEqual(last(*self.BEFORE, message(0, record(1, 0, [7], (2, [9]))), TOLD), [0, 0, 0, 0, 0, 2, 0, 0, 0])


class NextCut(CallCase):
    def test_number_is_one_more(self):
        self.assertEqual(last(*WHOLE_OF_2, SNAPSHOT), [2])
        self.assertEqual(newly_sent(WHOLE_OF_2, SNAPSHOT), [(1, marker(0, 2))])

    def test_the_last_one_is_not_told_any_more(self):
        self.refused_behind(WHOLE_OF_2 + [SNAPSHOT], cut(), -3)
        self.refused_behind(WHOLE_OF_2 + [SNAPSHOT, message(1, record(2, 0, []))], cut(), -3)
        self.refused_behind(WHOLE_OF_2 + [SNAPSHOT, message(1, marker(0, 2))], cut(), -3)

    def test_its_own_records(self):
        calls = WHOLE_OF_2 + [state([3]), SNAPSHOT, message(1, work(6)), message(1, marker(0, 1)), message(1, work(7)),
                              message(1, marker(0, 2)), message(1, record(1, 0, [8])), message(1, record(2, 1, [9]))]
        self.assertEqual(last(*calls, cut())[1:], recorded(0, [3], (1, [6]), (1, [7])) + recorded(1, [9]))
        self.assertEqual(last(*calls, SNAPSHOT), [3])

    def test_not_while_the_last_is_not_whole(self):
        for size in range(3, len(WHOLE_OF_2)):
            self.refused_behind(WHOLE_OF_2[:size], SNAPSHOT, -3)

    def test_sixteen_hosts(self):
        calls = [begin(15, 16, 0), state([15]), SNAPSHOT]
        for host in range(15):
            self.refused_behind(calls, cut(), -3)
            calls = calls + [message(host, marker(15, 1)), message(host, record(1, 0, [host]))]
        whole = [number for host in range(16) for number in recorded(0, [host])]
        self.assertEqual(last(*calls, cut()), [len(whole)] + whole)
        self.assertEqual(last(*calls, SNAPSHOT), [2])


class TellingTheCut(CallCase):
    def test_most_below_0(self):
        for most in (SMALLEST, -1):
            self.refused_behind(WHOLE_OF_2, cut(most), -2)
            self.refused_behind([begin(0, 2, 0)], cut(most), -2)
            self.refused_behind([begin(0, 2, 0), SNAPSHOT], cut(most), -2)

    def test_no_cut_or_not_whole(self):
        for most in (0, 1, GREATEST):
            self.refused_behind([begin(0, 2, 0)], cut(most), -3)
            for size in range(3, len(WHOLE_OF_2)):
                self.refused_behind(WHOLE_OF_2[:size], cut(most), -3)

    def test_another_hosts_cut_is_no_own_one(self):
        self.refused_behind([begin(0, 2, 0), message(1, marker(1, 1))], cut(), -3)

    def test_most_too_small_or_just_enough(self):
        for most in (0, 1, len(TOLD_OF_2) - 1):
            self.refused_behind(WHOLE_OF_2, cut(most), -1)
        for most in (len(TOLD_OF_2), len(TOLD_OF_2) + 1, GREATEST):
            self.same_behind(WHOLE_OF_2, cut(most), [len(TOLD_OF_2)] + TOLD_OF_2)

    def test_it_is_told_as_often_as_it_is_asked(self):
        told = [len(TOLD_OF_2)] + TOLD_OF_2
        self.assertEqual(each(*WHOLE_OF_2, cut(), cut(), state([9]), message(1, work(1)), cut())[-5:],
                         [told, told, [0], [0], told])

    def test_great_records(self):
        works = [(1, [number] * 64) for number in range(64)]
        great = recorded(1, [8] * 64, *works)
        calls = [begin(0, 2, 0), SNAPSHOT, message(1, marker(0, 1)), message(1, [4, 1, 0, 0, 0] + great)]
        self.refused_behind(calls, cut(len(great) + 2), -1)
        self.assertEqual(last(*calls, cut(len(great) + 3)), [len(great) + 3, 0, 0, 0] + great)


class OthersCuts(CallCase):
    def test_two_hosts_marker_then_record(self):
        self.assertEqual(sent(begin(0, 2, 0), state([4, 5]), message(1, marker(1, 9))),
                         [(1, marker(1, 9)), (1, record(9, 0, [4, 5]))])

    def test_begins_and_a_marker_goes_to_all(self):
        before = [begin(1, 4, 0), state([4])]
        self.assertEqual(newly_sent(before, message(2, marker(2, 7))), [(to, marker(2, 7)) for to in (0, 2, 3)])
        self.assertEqual(newly_sent(before, message(3, marker(2, 7))), [(to, marker(2, 7)) for to in (0, 2, 3)])

    def test_number_is_written_whole(self):
        for number in (0, 255, 0x04030201, 4294967295):
            self.assertEqual(sent(begin(0, 2, 0), message(1, [3, 1] + list(number.to_bytes(4, "little")))),
                             [(1, marker(1, number)), (1, record(number, 0, []))])

    def test_ends_when_the_last_way_closes(self):
        before = [begin(1, 4, 0), state([4]), message(2, marker(2, 7)), state([5])]
        self.assertEqual(newly_sent(before, message(0, marker(2, 7))), [])
        for first, second in ((0, 3), (3, 0)):
            self.assertEqual(newly_sent(before, message(first, marker(2, 7)), message(second, marker(2, 7))),
                             [(2, record(7, 0, [4]))])

    def test_the_way_of_the_first_marker_is_closed(self):
        before = [begin(1, 4, 0), message(3, marker(2, 7)), message(3, work(1)), message(2, work(2)),
                  message(0, work(3)), message(3, work(4)), message(0, marker(2, 7)), message(0, work(5)),
                  message(2, work(6))]
        self.assertEqual(newly_sent(before, message(2, marker(2, 7))),
                         [(2, record(7, 0, [], (2, [2]), (0, [3]), (2, [6])))])

    def test_marker_of_another_number_is_nothing(self):
        for number in (0, 6, 8, 263):
            self.same_behind([begin(1, 4, 0), message(2, marker(2, 7))], message(0, marker(2, number)), [0])
            self.same_behind([begin(1, 4, 0), message(2, marker(2, 7))], message(2, marker(2, number)), [0])

    def test_the_same_way_once_more_is_nothing(self):
        self.same_behind([begin(1, 4, 0), message(2, marker(2, 7))], message(2, marker(2, 7)), [0])
        self.same_behind([begin(1, 4, 0), message(2, marker(2, 7)), message(0, marker(2, 7))],
                         message(0, marker(2, 7)), [0])

    def test_it_is_no_more_when_it_has_ended(self):
        before = [begin(1, 3, 0), message(2, marker(2, 7)), message(0, marker(2, 7)), state([9])]
        self.assertEqual(newly_sent(before, message(0, marker(2, 8)), message(2, marker(2, 8))),
                         [(0, marker(2, 8)), (2, marker(2, 8)), (2, record(8, 0, [9]))])
        self.assertEqual(newly_sent(before, message(0, marker(2, 7))), [(0, marker(2, 7)), (2, marker(2, 7))])

    def test_work_behind_its_end_is_not_in_the_next(self):
        before = [begin(0, 2, 0), message(1, marker(1, 1)), message(1, work(3))]
        self.assertEqual(newly_sent(before, message(1, marker(1, 2))), [(1, marker(1, 2)), (1, record(2, 0, []))])

    def test_64_and_65_works(self):
        for how_many, too_much in ((64, 0), (65, 1)):
            works = [(1, [number]) for number in range(how_many)]
            before = ([begin(0, 3, 0), message(2, marker(2, 1))]
                      + [message(sender, work(*row)) for sender, row in works])
            self.assertEqual(newly_sent(before, message(1, marker(2, 1))), [(2, record(1, too_much, [], *works[:64]))])

    def test_taking_work_leaves_the_recording(self):
        before = [begin(0, 3, 0), message(2, marker(2, 1)), message(1, work(5)), take(), IDLE]
        self.assertEqual(newly_sent(before, message(1, marker(2, 1))), [(2, record(1, 0, [], (1, [5])))])

    def test_sixteen_hosts(self):
        before = [begin(15, 16, 0), message(4, marker(9, 3))] + [message(host, marker(9, 3)) for host in range(14)]
        self.assertEqual(newly_sent(before, message(14, marker(9, 3))), [(9, record(3, 0, []))])


class SeveralAtOnce(CallCase):
    def test_work_goes_into_each_in_which_its_way_counts(self):
        before = [begin(1, 4, 0), state([1]), SNAPSHOT, state([2]), message(0, marker(0, 5)), message(3, work(1)),
                  state([3]), message(3, marker(2, 6)), message(0, work(2)), message(3, work(3)), message(2, work(4))]
        own = [message(0, marker(1, 1)), message(0, work(5)), message(2, marker(1, 1)), message(3, marker(1, 1))]
        of_0 = [message(2, marker(0, 5)), message(3, marker(0, 5))]
        of_2 = [message(0, marker(2, 6)), message(2, marker(2, 6))]
        ends = [message(host, record(1, 0, [])) for host in (0, 2, 3)]
        calls = before + own + of_0
        self.assertEqual(newly_sent(calls, *of_2), [(2, record(6, 0, [3], (0, [2]), (2, [4]), (0, [5])))])
        self.assertEqual(newly_sent(before + own, *of_0), [(0, record(5, 0, [2], (3, [1]), (3, [3]), (2, [4])))])
        empty = recorded(0, [])
        self.assertEqual(last(*calls, *of_2, *ends, cut())[1:],
                         empty + recorded(0, [1], (3, [1]), (0, [2]), (3, [3]), (2, [4])) + empty + empty)

    def test_markers_of_one_leave_the_others(self):
        host = host_behind(begin(1, 4, 0), SNAPSHOT, message(0, marker(0, 5)), message(3, marker(2, 6)))
        self.assertEqual({who: kept.ways for who, kept in host.recordings.items()},
                         {1: [True, False, True, True], 0: [False, False, True, True], 2: [True, False, True, False]})

    def test_the_same_number_of_two_hosts(self):
        before = [begin(0, 3, 0), SNAPSHOT, message(1, marker(1, 1)), message(2, work(7)), message(2, marker(1, 1))]
        self.assertEqual(sent(*before)[4:], [(1, record(1, 0, [], (2, [7])))])
        self.refused_behind(before, SNAPSHOT, -3)

    def test_too_much_in_one_alone(self):
        before = ([begin(0, 3, 0), message(1, marker(1, 1)), message(2, work())] + [message(2, marker(2, 1))]
                  + [message(1, work())] + [message(2, work())] * 64)
        self.assertEqual(newly_sent(before, message(2, marker(1, 1))), [(1, record(1, 1, [], *[(2, [])] * 64))])
        self.assertEqual(newly_sent(before, message(1, marker(2, 1))), [(2, record(1, 0, [], (1, [])))])

    def test_all_sixteen_at_once(self):
        calls = [begin(0, 16, 0), SNAPSHOT] + [message(who, marker(who, who)) for who in range(1, 16)]
        self.assertEqual(sent(*calls), [(to, marker(who, max(who, 1))) for who in range(16) for to in range(1, 16)])
        self.assertEqual(len(host_behind(*calls).recordings), 16)


if __name__ == "__main__":
    unittest.main()
