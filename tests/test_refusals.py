"""Point 6: a text that is no net is refused, and by which class first."""

import unittest

from bearfaults.errors import FaultError, Full, NoForm, NoPlace, NoWire, Open, TooLong, Twice
from bearfaults.reader import read

HEAD = ("in p 1", "in q 2", "in r 3", "gate g not p", "sure h and p g", "out y g")


def gate_name(place):
    return "g" + chr(97 + place // 26) + chr(97 + place % 26)


def ins(count):
    return ["in i%s 1" % "abcdefghij"[place] for place in range(count)]


def gates(count, wire):
    return ["gate %s not %s" % (gate_name(place), wire) for place in range(count)]


def outs(count, wire):
    return ["out o%s %s" % ("abcdefghij"[place], wire) for place in range(count)]


class Refused(unittest.TestCase):

    def refused(self, refusal, rows):
        text = rows if isinstance(rows, str) else "\n".join(rows)
        with self.subTest(text=text):
            with self.assertRaises(FaultError) as taken:
                read(text)
            self.assertIs(type(taken.exception), refusal)
            self.assertIsInstance(taken.exception, ValueError)


class TooLongTexts(Refused):

    def test_81_rows(self):
        self.refused(TooLong, "\n" * 80)
        self.refused(TooLong, ["in p 1"] * 81)
        self.refused(TooLong, list(HEAD) + ["out y g"] * 75)
        self.refused(TooLong, ["#"] * 500)

    def test_80_rows(self):
        self.refused(NoForm, "\n" * 79)
        self.refused(Twice, ["in p 1"] * 80)
        self.refused(Full, ins(6) + gates(60, "ia") + outs(6, "ia") + ["out last ia"] * 8)

    def test_a_line_feed_behind_80_rows_makes_81(self):
        self.refused(Twice, "\n".join(["in p 1"] * 80))
        self.refused(TooLong, "\n".join(["in p 1"] * 80) + "\n")

    def test_ahead_of_every_fault_of_a_row(self):
        self.refused(TooLong, ["no form"] + ["in p 1"] * 80)
        self.refused(TooLong, ins(7) + ["out y p"] * 74)


class NoFormRows(Refused):

    def after_head(self, row):
        self.refused(NoForm, list(HEAD) + [row])

    def test_texts_and_rows_without_signs(self):
        self.refused(NoForm, "")
        self.refused(NoForm, " ")
        self.refused(NoForm, "\n")
        self.refused(NoForm, "in p 1\nout y p\n")
        self.refused(NoForm, "\nin p 1\nout y p")
        self.refused(NoForm, "in p 1\n\nout y p")

    def test_first_words(self):
        rows = ("p", "p 1", "ins p 1", "In p 1", "IN p 1", "i p 1", "gates a not p", "GATE a not p", "Sure a not p",
                "outs z p", "Out z p", "not a p", "a not p", "p q r", "#", "in:1", "vote a p p p", "1 p in")
        for row in rows:
            self.after_head(row)

    def test_words_lacking_or_too_many_of_ins(self):
        for row in ("in", "in p", "in s", "in 1", "in 1 s", "in s 1 1", "in s t 1", "in s 1 in", "in in 1"):
            self.refused(NoForm, [row, "out y p"])

    def test_widths(self):
        for width in ("0", "4", "5", "9", "10", "11", "01", "1.", "-1", "+1", "w", "one", "1:0", ""):
            self.refused(NoForm, ["in p 1", "in s " + width, "out y p"])

    def test_names_of_ins(self):
        names = ("", "in", "gate", "sure", "out", "not", "and", "or", "xor", "vote", "S", "s1", "s:0", "abcdefghi")
        for name in names:
            self.refused(NoForm, ["in %s 1" % name, "out y p"])

    def test_counts_of_wires_of_gates(self):
        for kind, count in (("not", 1), ("and", 2), ("or", 2), ("xor", 2), ("vote", 3)):
            for word in ("gate", "sure"):
                for other in range(7):
                    if other != count:
                        row = " ".join([word, "a", kind] + ["p"] * other)
                        self.refused(NoForm, ["in p 1", row, "out y p"])

    def test_words_lacking_of_gates(self):
        for word in ("gate", "sure"):
            for row in (word, word + " a", word + " not", word + " not p", word + " a p", word + " a p p"):
                self.refused(NoForm, ["in p 1", row, "out y p"])

    def test_kinds_of_gates(self):
        for kind in ("nand", "nor", "Not", "NOT", "nots", "in", "sure", "gate", "p", "", "1", "buf"):
            for count in (1, 2, 3):
                row = " ".join(["gate", "a", kind] + ["p"] * count)
                self.refused(NoForm, ["in p 1", row, "out y p"])

    def test_names_of_gates(self):
        for name in ("", "in", "and", "vote", "A", "a1", "a:0", "abcdefghi"):
            self.refused(NoForm, ["in p 1", "gate %s not p" % name, "out y p"])
            self.refused(NoForm, ["in p 1", "sure %s not p" % name, "out y p"])

    def test_counts_of_wires_of_outs(self):
        for row in ("out", "out z", "out p p p p p", "out z p p p p", "out z p p p p p", "out z" + " p" * 60):
            self.after_head(row)

    def test_names_of_outs(self):
        for name in ("", "in", "gate", "sure", "out", "not", "and", "or", "xor", "vote", "Z", "z1", "abcdefghi"):
            self.after_head("out %s p" % name)

    def test_wires_that_are_not_so_written(self):
        words = ("", ":", ":0", "q:", "q::0", "q:0:0", "q:00", "q:10", "q:a", "q:-", "q:0a", "0:q", "q0", "Q:0", "Q",
                 "1", "in", "vote", "in:0", "gate:1", "abcdefghi", "abcdefghi:0", "q;0", "q.0", "q:+")
        for word in words:
            self.refused(NoForm, ["in p 1", "in q 2", "gate a not " + word, "out y p"])
            self.refused(NoForm, ["in p 1", "in q 2", "gate a and p " + word, "out y p"])
            self.refused(NoForm, ["in p 1", "in q 2", "sure a vote p %s p" % word, "out y p"])
            self.refused(NoForm, ["in p 1", "in q 2", "out y " + word])
            self.refused(NoForm, ["in p 1", "in q 2", "out y p " + word])

    def test_blanks(self):
        good = ("in p 1", "gate g and p p", "sure h not g", "out y h")
        read("\n".join(good))
        for place, row in enumerate(good):
            bad = [" " + row, row + " "]
            bad.extend([row[:k] + " " + row[k:] for k, sign in enumerate(row) if sign == " "])
            for other in bad:
                self.refused(NoForm, good[:place] + (other,) + good[place + 1:])


class NoPlaceRows(Refused):

    def test_an_in_behind_a_gate(self):
        self.refused(NoPlace, ["in p 1", "gate g not p", "in q 1", "out y g"])
        self.refused(NoPlace, ["in p 1", "sure g not p", "in q 1", "out y g"])

    def test_an_in_behind_an_out(self):
        self.refused(NoPlace, ["in p 1", "out y p", "in q 1"])
        self.refused(NoPlace, ["in p 1", "gate g not p", "out y p", "in q 1"])

    def test_a_gate_behind_an_out(self):
        self.refused(NoPlace, ["in p 1", "out y p", "gate g not p"])
        self.refused(NoPlace, ["in p 1", "gate g not p", "out y p", "sure h not p", "out z h"])


class TwiceRows(Refused):

    def test_ins_and_gates(self):
        self.refused(Twice, ["in p 1", "in p 1", "out y p"])
        self.refused(Twice, ["in p 1", "in q 1", "in p 3", "out y q"])
        self.refused(Twice, ["in p 1", "gate p not p", "out y p"])
        self.refused(Twice, ["in p 2", "gate p not p:0", "out y p"])
        self.refused(Twice, ["in p 1", "gate g not p", "gate g not g", "out y p"])
        self.refused(Twice, ["in p 1", "gate g not p", "gate h not p", "sure g and p h", "out y p"])

    def test_outs(self):
        self.refused(Twice, ["in p 1", "out y p", "out y p"])
        self.refused(Twice, ["in p 1", "gate g not p", "out p p", "out z p", "out p g"])


class FullRows(Refused):

    def test_ins(self):
        self.assertEqual(len(read("\n".join(ins(6) + ["out y ia"]))[0]), 6)
        self.refused(Full, ins(7) + ["out y ia"])

    def test_gates(self):
        self.assertEqual(len(read("\n".join(["in p 1"] + gates(60, "p") + ["out y p"]))[1]), 60)
        self.refused(Full, ["in p 1"] + gates(61, "p") + ["out y p"])
        self.refused(Full, ["in p 1"] + gates(60, "p") + ["sure last not p", "out y p"])

    def test_outs(self):
        self.assertEqual(len(read("\n".join(["in p 1"] + outs(6, "p")))[2]), 6)
        self.refused(Full, ["in p 1"] + outs(7, "p"))


class NoWireRows(Refused):

    def not_there(self, rows, wires):
        for wire in wires:
            self.refused(NoWire, rows + ["gate a not " + wire, "out y p"])
            self.refused(NoWire, rows + ["sure a xor p " + wire, "out y p"])
            self.refused(NoWire, rows + ["gate a vote p p " + wire, "out y p"])
            self.refused(NoWire, rows + ["out y " + wire])
            self.refused(NoWire, rows + ["out y p p " + wire])

    def test_names_that_there_are_not(self):
        self.not_there(["in p 1", "in q 2", "in r 3"], ("s", "s:0", "s:9", "y", "pp", "abcdefgh", "abcdefgh:7"))

    def test_an_in_of_one_wire_has_no_figure(self):
        self.not_there(["in p 1"], ("p:0", "p:1", "p:9"))

    def test_an_in_of_more_wires_has_a_figure_below_its_width(self):
        self.not_there(["in p 1", "in q 2", "in r 3"], ["q", "r"])
        self.not_there(["in p 1", "in q 2"], ["q:%d" % figure for figure in range(2, 10)])
        self.not_there(["in p 1", "in r 3"], ["r:%d" % figure for figure in range(3, 10)])

    def test_a_gate_has_no_figure(self):
        self.not_there(["in p 1", "gate g not p"], ("g:0", "g:1", "g:9"))

    def test_a_gate_behind_or_the_gate_itself(self):
        self.refused(NoWire, ["in p 1", "gate g not g", "out y g"])
        self.refused(NoWire, ["in p 1", "gate g not h", "gate h not p", "out y g"])
        self.refused(NoWire, ["in p 1", "sure g vote p g p", "out y g"])

    def test_an_out_is_no_wire(self):
        self.refused(NoWire, ["in p 1", "out y p", "out z y"])
        self.refused(NoWire, ["in p 1", "out y y"])

    def test_without_ins(self):
        self.refused(NoWire, "out y p")
        self.refused(NoWire, "gate g not p\nout y g")


class OpenTexts(Refused):

    def test_without_outs(self):
        self.refused(Open, "in p 1")
        self.refused(Open, ins(6))
        self.refused(Open, ["in p 1", "gate g not p"])
        self.refused(Open, ["in p 2"] + gates(60, "p:1"))

    def test_any_faulty_row_is_ahead_of_it(self):
        self.refused(NoForm, "in p 1\n")
        self.refused(Twice, "in p 1\nin p 1")
        self.refused(NoWire, "in p 1\ngate g not h")
        self.refused(Full, ins(7))


class SeveralFaults(Refused):

    def test_no_form_is_first_of_a_row(self):
        self.refused(NoForm, ["in p 1", "out y p", "in p 4"])
        self.refused(NoForm, ["in p 1", "out y p", "gate p not p p"])
        self.refused(NoForm, ["in p 1", "in p 0"])
        self.refused(NoForm, ins(6) + ["in in 1"])
        self.refused(NoForm, ["in p 1", "out y p", "out y s t u v"])
        self.refused(NoForm, ["in p 1", "gate g and s S"])
        self.refused(NoForm, ["in p 1"] + gates(60, "p") + ["gate last not"])

    def test_no_place_is_next(self):
        self.refused(NoPlace, ["in p 1", "out y p", "in p 1"])
        self.refused(NoPlace, ["in p 1", "gate g not p", "in g 1"])
        self.refused(NoPlace, ["in p 1", "out y p", "gate p not p"])
        self.refused(NoPlace, ins(6) + ["out y ia", "in last 1"])
        self.refused(NoPlace, ins(6) + ["gate g not ia", "in ia 1"])
        self.refused(NoPlace, ["in p 1", "out y p", "gate g not s"])
        self.refused(NoPlace, ["in p 1"] + gates(60, "p") + ["out y p", "gate last not s"])
        self.refused(NoPlace, ["in p 1"] + gates(60, "p") + ["out y p", "gate gaa not s"])

    def test_twice_is_next(self):
        self.refused(Twice, ins(6) + ["in ia 1"])
        self.refused(Twice, ["in p 1"] + gates(60, "p") + ["gate gaa not p"])
        self.refused(Twice, ["in p 1"] + gates(60, "p") + ["sure p not s"])
        self.refused(Twice, ["in p 1"] + outs(6, "p") + ["out oa p"])
        self.refused(Twice, ["in p 1"] + outs(6, "p") + ["out oa s"])
        self.refused(Twice, ["in p 1", "gate p not s"])
        self.refused(Twice, ["in p 1", "out y p", "out y s:0"])

    def test_full_is_ahead_of_no_wire(self):
        self.refused(Full, ["in p 1"] + gates(60, "p") + ["gate last not s"])
        self.refused(Full, ["in p 1"] + gates(60, "p") + ["sure last not last"])
        self.refused(Full, ["in p 1"] + outs(6, "p") + ["out last s"])
        self.refused(Full, ["in p 1"] + outs(6, "p") + ["out last p:0"])

    def test_the_first_faulty_row_is_due(self):
        faulty = (
            (NoForm, "gate k not"),
            (Twice, "gate p not p"),
            (NoWire, "gate k not s"),
        )
        for refusal, row in faulty:
            for other, behind in faulty:
                self.refused(refusal, ["in p 1", row, behind, "out y p"])
                self.refused(other, ["in p 1", "gate g not p", behind, "gate h not p", row, "out y p"])

    def test_the_first_faulty_row_is_due_among_outs(self):
        faulty = (
            (NoForm, "out z"),
            (NoPlace, "in k 1"),
            (NoPlace, "gate k not p"),
            (Twice, "out y p"),
            (NoWire, "out z s"),
        )
        for refusal, row in faulty:
            for other, behind in faulty:
                self.refused(refusal, ["in p 1", "out y p", row, behind])
                self.refused(other, ["in p 1", "out y p", behind, "out w p", row])

    def test_full_ahead_of_rows_without_form(self):
        self.refused(Full, ins(7) + ["no form"])
        self.refused(NoForm, ins(6) + ["no form", "in last 1"])
        self.refused(Full, ["in p 1"] + outs(7, "p") + ["in q 1", ""])


if __name__ == "__main__":
    unittest.main()
