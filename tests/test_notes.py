import unittest

from greenturns.crossing import Crossing
from greenturns.errors import BadNote
from greenturns.notes import read, shown
from tests.helper import FAR, RING, all_clash_lists, all_pairs, check_refused

SIGNS = ["\n"] + [chr(code) for code in range(ord(" "), ord("~") + 1)]


def written(streams, clashes):
    return f"{streams}:" + "".join(f" {a}-{b}" for a, b in clashes)


def all_right_texts():
    return {
        written(streams, clashes)
        for streams in range(1, 7)
        for clashes in all_clash_lists(streams)
    }


def with_one_sign_changed(text):
    for place in range(len(text) + 1):
        yield text[:place] + text[place + 1:]
        for sign in SIGNS:
            yield text[:place] + sign + text[place:]
            yield text[:place] + sign + text[place + 1:]


class TestShown(unittest.TestCase):
    def test_some_texts(self):
        self.assertEqual(shown(Crossing(3, [(0, 1), (1, 2)])), "3: 0-1 1-2")
        self.assertEqual(shown(Crossing(2, [])), "2:")
        self.assertEqual(shown(Crossing(1, [])), "1:")
        self.assertEqual(shown(Crossing(5, RING)), "5: 0-1 0-4 1-2 2-3 3-4")
        self.assertEqual(
            shown(Crossing(6, all_pairs(6))),
            "6: 0-1 0-2 0-3 0-4 0-5 1-2 1-3 1-4 1-5 2-3 2-4 2-5 3-4 3-5 4-5",
        )

    def test_clashes_told_out_of_order_and_twice(self):
        self.assertEqual(shown(Crossing(3, [(2, 1), (1, 0), (1, 2), (0, 1)])), "3: 0-1 1-2")


class TestWrittenAndReadAgain(unittest.TestCase):
    def check(self, streams, clashes):
        text = written(streams, clashes)
        self.assertEqual(shown(Crossing(streams, clashes)), text)
        crossing = read(text)
        self.assertIs(type(crossing), Crossing)
        self.assertEqual(crossing.size(), streams)
        self.assertEqual(crossing.clashes(), clashes)
        self.assertEqual(shown(crossing), text)
        self.assertEqual(crossing.full(), Crossing(streams, clashes).full())

    def test_no_clash_some_and_all(self):
        for streams in range(1, 7):
            pairs = all_pairs(streams)
            for clashes in [[], pairs[:1], pairs[-1:], pairs[::2], pairs]:
                self.check(streams, clashes)

    def test_all_crossings_of_up_to_five_streams(self):
        for streams in range(1, 6):
            for clashes in all_clash_lists(streams):
                self.check(streams, clashes)

    def test_some_crossings_of_six_streams(self):
        for number, clashes in enumerate(all_clash_lists(6)):
            if number % 29 == 0:
                self.check(6, clashes)

    def test_read_asks_like_another_crossing(self):
        crossing = read("3: 0-1 1-2")
        self.assertIs(crossing.clash(0, 1), True)
        self.assertIs(crossing.clash(0, 2), False)
        self.assertIs(crossing.together((0, 2)), True)


class TestRefused(unittest.TestCase):
    def assert_refused(self, texts):
        for text in texts:
            with self.subTest(text=text):
                check_refused(self, BadNote, read, text)

    def test_empty_and_hardly_more(self):
        self.assert_refused(["", " ", ":", "3", "-", "\n", " :", ": ", "0-1", " 0-1", ": 0-1", "3 ", "::", "3-"])

    def test_blanks_too_many_or_missing(self):
        self.assert_refused([
            " 3: 0-1", "3 : 0-1", "3:  0-1", "3: 0-1 ", "3: 0-1  1-2", "3:0-1", "3: 0-11-2", "3: 0 -1", "3: 0- 1",
            "3: 0 - 1", "3: ", " 3:", "3:  ", "3: 0-1 1-2 ", "3 :", "3: 0 1", "3: 01",
        ])

    def test_line_ends(self):
        self.assert_refused([
            "\n3: 0-1", "3: 0-1\n", "3:\n", "3:\n0-1", "3: 0-1\n1-2", "3\n: 0-1", "3: 0\n1", "3: 0-1\n\n", "3:\n 0-1",
        ])

    def test_a_sign_or_a_figure_too_many(self):
        self.assert_refused([
            "3:: 0-1", "3: 0--1", "3: 0-1-2", "3: 0-1,", "3: 0-1, 1-2", "33: 0-1", "3: 00-1", "3: 0-11", "3: 0-12",
            "3: 10-1", "3: -0-1", "3: 0-1:", "3: 0-1 1-2.", "3:0", "3: 0", "3: 0-", "3: -1", "3: 0-1 1", "3: 0-1 1-",
        ])

    def test_noughts_ahead(self):
        self.assert_refused(["03: 0-1", "003:", "3: 00-1", "3: 0-01", "3: 0-1 01-2", "3: 0-1 1-02", "03:", "0:"])

    def test_a_plus_or_an_underscore(self):
        self.assert_refused([
            "+3: 0-1", "3: +0-1", "3: 0-+1", "3: 0+1", "3_: 0-1", "_3:", "3: 0_0-1", "3: 0-1_", "3: 0_1", "1_0:", "3+:",
        ])

    def test_clashes_out_of_order(self):
        self.assert_refused(["3: 1-2 0-1", "3: 0-2 0-1", "4: 0-1 2-3 1-2", "6: 4-5 0-1"])

    def test_clashes_told_twice(self):
        self.assert_refused(["3: 0-1 0-1", "3: 0-1 1-2 1-2", "3: 0-1 1-2 0-1", "3: 0-1 1-0"])

    def test_clashes_turned_round(self):
        self.assert_refused(["3: 1-0", "3: 0-1 2-1", "3: 1-0 2-1", "2: 1-0"])

    def test_clashes_of_a_stream_and_itself(self):
        self.assert_refused(["3: 0-0", "3: 1-1", "3: 0-1 2-2", "1: 0-0", "3: 3-3"])

    def test_clashes_with_a_stream_that_is_not_there(self):
        self.assert_refused(["3: 0-3", "3: 0-1 1-3", "1: 0-1", "6: 0-6", "6: 5-6", "3: 3-4", "2: 0-9", "3: 0-10", "3: -1-0"])

    def test_a_number_of_streams_that_there_can_not_be(self):
        self.assert_refused(["0:", "7:", "8: 0-1", "9:", "10:", "-1:", "-3: 0-1", "66:", "16: 0-1", "7: 0-6", "0: 0-1"])

    def test_other_signs(self):
        self.assert_refused([
            "a: 0-1", "3: a-b", "3; 0-1", "3: 0~1", "3. 0-1", "3: 0/1", "3: x", "three", "~", "3: 0-1 # no", "3: [0-1]",
            "(3, [])", "3.0:", "3e0:", "0x3:", "3: 0=1", "3, 0-1", "3:\t0-1", "3:_0-1", "3: %-1", "%",
            "\u0663:", "\u00b3:", "3: \u0660-\u0661", "3:\u00a00-1", "3: 0\u20131",
        ])

    def test_long_texts(self):
        self.assert_refused([
            "3" * 400, " " * 400, "\n" * 400, "3:" + " 0-1" * 99, "6:" + " 4-5" * 99 + "  ", "1" + "0" * 399,
            "6:" + " " * 398, "3: 0-" + "1" * 395, "0" * 399 + "3", str(FAR // 10 ** 1000) + ":",
        ])

    def test_right_texts_with_one_sign_changed(self):
        right = all_right_texts()
        texts = [
            "1:", "2:", "6:", "2: 0-1", "3: 0-1 1-2", "3: 0-2 1-2", "5: 0-1 0-4 1-2 2-3 3-4", written(6, all_pairs(6)),
        ]
        for text in texts:
            for changed in with_one_sign_changed(text):
                if changed in right:
                    self.assertEqual(shown(read(changed)), changed)
                else:
                    check_refused(self, BadNote, read, changed)

    def test_all_short_texts(self):
        for first in SIGNS:
            for second in SIGNS:
                if first in "123456" and second == ":":
                    self.assertEqual(shown(read(first + second)), first + second)
                else:
                    check_refused(self, BadNote, read, first + second)
            check_refused(self, BadNote, read, first)


class TestNothingShared(unittest.TestCase):
    def test_what_is_told_changes_nothing(self):
        crossing = read("3: 0-1 1-2")
        crossing.clashes().append((0, 2))
        crossing.full().clear()
        self.assertEqual(shown(crossing), "3: 0-1 1-2")
        self.assertEqual(crossing.full(), [(0, 2), (1,)])

    def test_two_readings_are_two_crossings(self):
        one = read("3: 0-1 1-2")
        other = read("3: 0-1 1-2")
        self.assertIsNot(one, other)
        self.assertIsNot(one.clashes(), other.clashes())

    def test_a_list_that_is_changed_later(self):
        clashes = [(0, 1)]
        crossing = Crossing(3, clashes)
        clashes.append((1, 2))
        self.assertEqual(shown(crossing), "3: 0-1")


if __name__ == "__main__":
    unittest.main()
