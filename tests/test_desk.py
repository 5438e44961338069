"""Points 17 and 18: the desk, its answers and its refusals."""

import unittest

import plain
from bearfaults.desk import Desk
from bearfaults.errors import (FaultError, Full, NoForm, NoneYet, NoPlace, NoShape, NotPlain, NotSound, NotThree,
                               NoWire, Open, TooLong, Twice)
from bearfaults.made import in_pairs, in_threes, size, with_votes
from bearfaults.reader import read
from bearfaults.texts import shown

NOT = "in p 1\ngate a not p\nout y a"
THREES = "in p 3\ngate a not p:0\ngate b not p:1\ngate c not p:2\nout y a b c"
PAIRS = "in p 2\ngate a not p:0\ngate b not p:1\nout y a b"
PLAIN = "in p 1\nin q 1\ngate a and p q\nsure b not a\ngate c xor b p\nout y c\nout z a"
UNSOUND = "in p 1\nin q 1\ngate a and p q\nout y p q\nout z a"
# Rows that ask of a net.
ASKS = ("run 0", "run 0 1 1", "bears 0 right", "bears 3 safe", "sure 0 safe", "sure 1 right", "three", "pair", "votes",
        "keeps", "size", "shown")


def told_rows(text):
    """A desk that was told the text's rows."""
    desk = Desk()
    for row in text.split("\n"):
        desk.say("row " + row)
    return desk


def desk_of(text):
    """A desk whose net is that of the text."""
    desk = told_rows(text)
    desk.say("read")
    return desk


class Checked(unittest.TestCase):

    def say(self, desk, row, due):
        answer = desk.say(row)
        self.assertIs(type(answer), str)
        self.assertEqual(answer, due)

    def refused(self, desk, row, error):
        with self.assertRaises(FaultError) as caught:
            desk.say(row)
        self.assertIs(type(caught.exception), error, row)


class Rows(Checked):

    def test_rows_are_read(self):
        desk = Desk()
        for row in PLAIN.split("\n"):
            self.say(desk, "row " + row, "ok")
        self.say(desk, "read", "gates 3")
        self.say(desk, "shown", PLAIN.replace("\n", "; "))

    def test_gates_are_counted(self):
        self.say(told_rows("in p 1\nout y p"), "read", "gates 0")
        self.say(told_rows(NOT), "read", "gates 1")
        rows = ["in p 1", "sure ga not p"] + [f"gate g{chr(98 + k)} not ga" for k in range(11)] + ["out y ga"]
        self.say(told_rows("\n".join(rows)), "read", "gates 12")

    def test_rows_are_taken_as_they_are(self):
        desk = Desk()
        for row in ("row ", "row  ", "row row", "row   in p 1 ", "row \"!#$&'()*+,-./:;<=>?@[]^_`{|}~\\", "row read",
                    "row in p 9", "row clear"):
            self.say(desk, row, "ok")
        self.refused(desk, "read", NoForm)

    def test_a_row_of_no_signs_is_a_row(self):
        self.refused(told_rows("\n" + NOT), "read", NoForm)
        self.refused(told_rows(NOT + "\n"), "read", NoForm)

    def test_blanks_of_a_row_stay(self):
        desk = Desk()
        desk.say("row  in p 1")
        desk.say("row out y p")
        self.refused(desk, "read", NoForm)
        self.refused(told_rows("in p 1\nout y p "), "read", NoForm)

    def test_rows_stay_behind_a_read(self):
        desk = told_rows("in p 1\nout y p")
        self.say(desk, "read", "gates 0")
        self.say(desk, "row out z p", "ok")
        self.say(desk, "read", "gates 0")
        self.say(desk, "shown", "in p 1; out y p; out z p")

    def test_rows_told_are_not_yet_read(self):
        desk = desk_of("in p 1\nout y p")
        desk.say("row out z p")
        self.say(desk, "shown", "in p 1; out y p")
        self.say(desk, "run 1", "1")

    def test_clear(self):
        desk = desk_of(NOT)
        self.say(desk, "clear", "ok")
        self.refused(desk, "read", NoForm)
        # The net that was read stays.
        self.say(desk, "shown", "in p 1; gate a not p; out y a")
        for row in PAIRS.split("\n"):
            desk.say("row " + row)
        self.say(desk, "run 0", "1")
        self.say(desk, "read", "gates 2")
        self.say(desk, "shown", PAIRS.replace("\n", "; "))

    def test_clear_of_nothing(self):
        desk = Desk()
        self.say(desk, "clear", "ok")
        self.say(desk, "clear", "ok")
        self.refused(desk, "size", NoneYet)

    def test_no_rows_are_the_text_without_signs(self):
        self.refused(Desk(), "read", NoForm)

    def test_what_read_refuses(self):
        texts = (
            ("in p 4\nout y p", NoForm),
            ("in p 1\nout y p\nin q 1", NoPlace),
            ("in p 1\nin p 1\nout y p", Twice),
            ("\n".join([f"in {name} 1" for name in "pqrstuv"] + ["out y p"]), Full),
            ("in p 1\nout y q", NoWire),
            ("in p 1", Open),
            ("in p 1\ngate a not p", Open),
            ("\n".join(["in p 1"] * 81), TooLong),
        )
        for text, error in texts:
            with self.subTest(text=text):
                self.refused(told_rows(text), "read", error)
                desk = desk_of(NOT)
                desk.say("clear")
                for row in text.split("\n"):
                    desk.say("row " + row)
                self.refused(desk, "read", error)
                # Neither the net nor the rows are changed.
                self.say(desk, "shown", NOT.replace("\n", "; "))
                self.refused(desk, "read", error)

    def test_rows_may_be_mended_behind_a_refused_read(self):
        desk = told_rows("in p 1\ngate a not p")
        self.refused(desk, "read", Open)
        self.refused(desk, "shown", NoneYet)
        desk.say("row out y a")
        self.say(desk, "read", "gates 1")

    def test_any_count_of_rows_is_told(self):
        desk = desk_of("\n".join(["in p 1", "out y p"]))
        for count in range(100):
            self.say(desk, "row out z p", "ok")
        self.refused(desk, "read", TooLong)

    def test_desks_are_apart(self):
        one = desk_of(NOT)
        other = Desk()
        self.refused(other, "size", NoneYet)
        self.refused(other, "read", NoForm)
        other.say("row in p 1")
        self.say(one, "read", "gates 1")


class Runs(Checked):

    def test_one_bit(self):
        desk = desk_of(NOT)
        self.say(desk, "run 0", "1")
        self.say(desk, "run 1", "0")

    def test_several_outs(self):
        desk = desk_of(PLAIN)
        for bits, due in (("0 0", "1 0"), ("0 1", "1 0"), ("1 0", "0 0"), ("1 1", "1 1")):
            self.say(desk, "run " + bits, due)

    def test_outs_of_no_bit(self):
        desk = desk_of(UNSOUND)
        for bits, due in (("0 0", "0 0"), ("0 1", "- 0"), ("1 0", "- 0"), ("1 1", "1 1")):
            self.say(desk, "run " + bits, due)
        desk = desk_of("in p 1\nin q 1\nout y p q\nout z q p\nout w p q p")
        self.say(desk, "run 1 0", "- - 1")

    def test_against_plain_trial(self):
        for seed in range(60):
            net = plain.any_net(seed)
            desk = desk_of(shown(net))
            for bits in plain.inputs(net):
                due = ["-" if bit is None else str(bit) for bit in plain.reads(net, bits, ())]
                self.say(desk, "run " + " ".join(str(bit) for bit in bits), " ".join(due))

    def test_another_count_of_bits(self):
        desk = desk_of(PLAIN)
        for row in ("run 0", "run 1", "run 0 1 0", "run 0 0 0 0 0 0 0 0"):
            self.refused(desk, row, NoForm)
        # A bit for each in, not for each wire.
        desk = desk_of(THREES)
        self.refused(desk, "run 1 1 1", NoForm)
        self.say(desk, "run 1", "0")


class Faults(Checked):

    def test_bears(self):
        desk = desk_of(THREES)
        for row in ("bears 0 right", "bears 1 right", "bears 0 safe", "bears 1 safe"):
            self.say(desk, row, "bears")
        for row in ("bears 2 right", "bears 3 right", "bears 2 safe", "bears 3 safe"):
            self.say(desk, row, "breaks 1 2 at 0")

    def test_levels(self):
        desk = desk_of(PAIRS)
        self.say(desk, "bears 1 safe", "bears")
        self.say(desk, "bears 1 right", "breaks 1 at 0")
        self.say(desk, "bears 2 safe", "breaks 1 2 at 0")

    def test_the_inputs_bits(self):
        # Gate a is read where q and r are 1 alone.
        desk = desk_of("in p 1\nin q 1\nin r 1\nsure c and q r\ngate a not p\nsure b and a c\nout y b")
        self.say(desk, "bears 1 right", "breaks 2 at 0 1 1")

    def test_sure(self):
        desk = desk_of(THREES)
        self.say(desk, "sure 1 right", "none")
        self.say(desk, "sure 2 right", "1 2")
        desk = desk_of(PAIRS)
        self.say(desk, "sure 0 right", "none")
        self.say(desk, "sure 1 safe", "none")
        self.say(desk, "sure 1 right", "1 2")
        self.say(desk, "sure 2 safe", "1")

    def test_each_number_of_faults(self):
        # Gates that tell 0, and an out that tells 1 where all of them are turned.
        for many in (1, 2, 3, 4):
            names = "abcd"[:many]
            rows = ["in p 1"] + [f"gate g{name} xor p p" for name in names] + ["sure ha or ga ga"]
            rows += [f"sure h{name} and h{last} g{name}" for last, name in zip(names, names[1:])]
            desk = desk_of("\n".join(rows + [f"out y h{names[-1]}"]))
            places = " ".join(str(place + 1) for place in range(many))
            for count in range(4):
                for level in plain.LEVELS:
                    self.say(desk, f"bears {count} {level}", "bears" if count < many else f"breaks {places} at 0")
                    self.say(desk, f"sure {count} {level}", "none" if count < many else "1")

    def test_sure_changes_nothing(self):
        desk = desk_of(PAIRS)
        desk.say("sure 1 right")
        self.say(desk, "bears 1 right", "breaks 1 at 0")
        self.say(desk, "shown", PAIRS.replace("\n", "; "))

    def test_places_of_two_figures(self):
        rows = ["in p 1"] + [f"sure g{chr(97 + k)} not p" for k in range(9)]
        rows += ["gate h not p", "gate k not h", "out y h", "out z k"]
        desk = desk_of("\n".join(rows))
        self.say(desk, "bears 1 safe", "breaks 10 at 0")
        self.say(desk, "sure 1 safe", "10 11")

    def test_against_plain_trial(self):
        for seed in range(60):
            net = plain.sound_net(seed)
            desk = desk_of(shown(net))
            for level in plain.LEVELS:
                for many in range(4):
                    due = plain.bears(net, many, level)
                    text = due[0]
                    if due[0] == "breaks":
                        bits = plain.inputs(net)[due[2]]
                        words = [str(place + 1) for place in due[1]] + ["at"] + [str(bit) for bit in bits]
                        text = " ".join(["breaks"] + words)
                    self.say(desk, f"bears {many} {level}", text)
                    places = [str(place + 1) for place in plain.surest(net, many, level)]
                    self.say(desk, f"sure {many} {level}", " ".join(places) if places else "none")

    def test_nets_that_are_not_sound(self):
        desk = desk_of(UNSOUND)
        for many in range(4):
            for level in plain.LEVELS:
                self.refused(desk, f"bears {many} {level}", NotSound)
                self.refused(desk, f"sure {many} {level}", NotSound)
        self.say(desk, "size", "1 0 0 1")
        self.say(desk, "shown", UNSOUND.replace("\n", "; "))


class Made(Checked):

    def test_the_made_net_is_the_desks(self):
        net = read(PLAIN)
        for row, make in (("three", in_threes), ("pair", in_pairs), ("votes", with_votes)):
            desk = desk_of(PLAIN)
            made = make(net)
            self.say(desk, row, f"gates {len(made[1])}")
            self.say(desk, "shown", shown(made).replace("\n", "; "))
            self.say(desk, "size", " ".join(str(number) for number in size(made)))
            for bits in plain.inputs(net):
                due = " ".join(str(bit) for bit in plain.reads(net, bits, ()))
                self.say(desk, "run " + " ".join(str(bit) for bit in bits), due)

    def test_one_gate(self):
        desk = desk_of(NOT)
        self.say(desk, "bears 1 safe", "breaks 1 at 0")
        self.say(desk, "three", "gates 3")
        self.say(desk, "shown", "in p 3; gate a not p:0; gate b not p:1; gate c not p:2; out y a b c")
        self.say(desk, "bears 1 right", "bears")
        self.say(desk, "keeps", "keeps")
        desk = desk_of(NOT)
        self.say(desk, "pair", "gates 2")
        self.say(desk, "shown", PAIRS.replace("\n", "; "))
        desk = desk_of(NOT)
        self.say(desk, "votes", "gates 6")
        self.say(desk, "size", "6 3 0 2")

    def test_the_rows_stay(self):
        desk = desk_of(NOT)
        desk.say("three")
        self.say(desk, "read", "gates 1")
        self.say(desk, "shown", NOT.replace("\n", "; "))
        self.say(desk, "pair", "gates 2")

    def test_not_plain(self):
        for text in (THREES, PAIRS, "in p 1\nout y p p", "in p 2\nout y p:0"):
            desk = desk_of(text)
            for row in ("three", "pair", "votes"):
                self.refused(desk, row, NotPlain)
                self.say(desk, "shown", text.replace("\n", "; "))
        desk = desk_of(NOT)
        desk.say("three")
        before = desk.say("shown")
        for row in ("three", "pair", "votes"):
            self.refused(desk, row, NotPlain)
            self.say(desk, "shown", before)

    def test_full(self):
        for row, most, times in (("three", 20, 3), ("pair", 30, 2), ("votes", 10, 6)):
            for count in (most, most + 1):
                net = ([("p", 1)], [("not", (place,), False) for place in range(count)], [("y", (count,))])
                desk = desk_of(shown(net))
                if count == most:
                    self.say(desk, row, f"gates {most * times}")
                else:
                    self.refused(desk, row, Full)
                    self.say(desk, "shown", shown(net).replace("\n", "; "))
                    self.say(desk, "size", f"{count} 0 0 {count}")

    def test_not_plain_is_ahead_of_full(self):
        gates = [("not", (place,), False) for place in range(40)]
        desk = desk_of(shown(([("p", 1)], gates, [("y", (40, 40))])))
        for row in ("three", "pair", "votes"):
            self.refused(desk, row, NotPlain)


class Keeps(Checked):

    def test_keeps(self):
        self.say(desk_of(THREES), "keeps", "keeps")

    def test_loses(self):
        self.say(desk_of("in p 3\nin q 3\nout y p:0 p:1 q:0"), "keeps", "loses")
        self.say(desk_of("in p 3\ngate a vote p:0 p:1 p:2\nout y a a a"), "keeps", "loses")
        self.say(desk_of("in p 3\nout y p:0 p:0 p:1"), "keeps", "loses")

    def test_not_three(self):
        for text in (NOT, PAIRS, "in p 3\nout y p:0", "in p 1\nout y p p p"):
            desk = desk_of(text)
            self.refused(desk, "keeps", NotThree)
            self.say(desk, "shown", text.replace("\n", "; "))


class Told(Checked):

    def test_size(self):
        self.say(desk_of("in p 1\nout y p"), "size", "0 0 0 0")
        self.say(desk_of(PLAIN), "size", "3 0 1 3")
        self.say(desk_of("in p 3\nsure a vote p:0 p:1 p:2\nsure b not a\nout y a"), "size", "2 1 2 1")

    def test_shown(self):
        self.say(desk_of("in p 1\nout y p"), "shown", "in p 1; out y p")
        text = "in a 1\nin q 2\ngate foo not a\nsure bar and foo q:1\nout y bar foo q:0\nout a a"
        due = "in a 1; in q 2; gate xa not a; sure b and xa q:1; out y b xa q:0; out a a"
        self.say(desk_of(text), "shown", due)

    def test_asked_again_the_answer_is_the_same(self):
        desk = desk_of(THREES)
        for row in ("run 0", "bears 2 safe", "sure 2 safe", "keeps", "size", "shown"):
            first = desk.say(row)
            self.say(desk, row, first)


class NoShapes(Checked):

    rows = (
        "", " ", "row", "rows", "rowin p 1", " row in p 1", "Row in p 1", "row\tin p 1",
        "clear ", " clear", "clear 1", "Clear", "clear clear", "read ", " read", "read 1", "READ", "reads",
        "run", "run ", "run 2", "run 0 2", "run  0", "run 0 ", " run 0", "run 0  1", "run 01", "run 00", "run -1",
        "run 1.", "run x", "run 0,1", "run +1", "run - 1", "run 0 1 x",
        "bears", "bears 1", "bears right", "bears right 1", "bears 4 right", "bears -1 right", "bears 1 left",
        "bears 1 Right", "bears 1 right ", "bears  1 right", "bears 1  right", "bears 1 right safe", "bears 01 right",
        "bears 10 right", "bears x safe", "bears 1 ", "bears  safe", "bears 0 0", "bears +1 safe", "bears 1 safety",
        "sure", "sure 1", "sure safe", "sure 4 safe", "sure 1 saf", "sure 1 safe 1", "sure 1 safe ", "sure  1 safe",
        "sure 00 safe", "sure a not p", "sure 9 right", "sure 1 bears",
        "three ", " three", "three 3", "threes", "pair ", "pairs", "pair pair", "votes ", "vote", "votes 1",
        "keeps ", "keep", "keeps 1", "size ", "size 0", "sizes", "shown ", "show", "shown 1",
        "in p 1", "out y p", "gate a not p", "gates", "ok", "none", "help", "; ", "0", "right", "safe",
        "read\n", "\nread", "clear\n", "row in p 1\nout y p", "row \n", "row in p 1\n", "row\n", "\n", "run 0\n",
        "run 0\n1", "bears 1 right\n", "sure 1\nsafe", "three\n", "size\n", "shown\n", "read\nread", "\nrow in p 1",
    )

    def test_without_a_net(self):
        desk = Desk()
        for row in self.rows:
            self.refused(desk, row, NoShape)
        self.refused(desk, "size", NoneYet)
        self.refused(desk, "read", NoForm)

    def test_with_rows_and_a_net(self):
        desk = desk_of(NOT)
        desk.say("three")
        before = desk.say("shown")
        for row in self.rows:
            self.refused(desk, row, NoShape)
            self.say(desk, "shown", before)
        self.say(desk, "read", "gates 1")
        self.say(desk, "shown", NOT.replace("\n", "; "))

    def test_with_rows_that_are_no_net(self):
        desk = told_rows("in p 1\nin p 1")
        for row in self.rows:
            self.refused(desk, row, NoShape)
        self.refused(desk, "read", Twice)

    def test_ahead_of_not_sound(self):
        desk = desk_of(UNSOUND)
        for row in ("bears 4 right", "sure 1 left", "bears 1"):
            self.refused(desk, row, NoShape)


class NoNet(Checked):

    def test_each_row_that_asks_of_a_net(self):
        desk = Desk()
        for row in ASKS:
            self.refused(desk, row, NoneYet)
        desk.say("row in p 1")
        for row in ASKS:
            self.refused(desk, row, NoneYet)
        desk.say("row out y p")
        for row in ASKS:
            self.refused(desk, row, NoneYet)
        self.say(desk, "read", "gates 0")
        self.say(desk, "run 0", "0")

    def test_behind_a_refused_read(self):
        desk = told_rows("in p 1\nout y q")
        self.refused(desk, "read", NoWire)
        for row in ASKS:
            self.refused(desk, row, NoneYet)

    def test_behind_clear(self):
        desk = told_rows(NOT)
        desk.say("clear")
        for row in ASKS:
            self.refused(desk, row, NoneYet)


class Refused(Checked):

    def test_nothing_is_changed(self):
        desk = desk_of(UNSOUND)
        before = desk.say("shown")
        for row, error in (("run 0", NoForm), ("run 0 1 0", NoForm), ("bears 1 right", NotSound),
                           ("sure 1 right", NotSound), ("three", NotPlain), ("pair", NotPlain), ("votes", NotPlain),
                           ("keeps", NotThree), ("read ", NoShape), ("row", NoShape), ("clear\n", NoShape)):
            self.refused(desk, row, error)
            self.say(desk, "shown", before)
            self.say(desk, "read", "gates 1")
            self.say(desk, "shown", before)

    def test_a_refused_row_is_not_told(self):
        desk = told_rows("in p 1")
        self.refused(desk, "row out y p\n", NoShape)
        self.refused(desk, "row", NoShape)
        desk.say("row out y p")
        self.say(desk, "read", "gates 0")


if __name__ == "__main__":
    unittest.main()
