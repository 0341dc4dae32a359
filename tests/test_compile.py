"""compile_text: each kind of line, blocks, procedures, places and numbers, and the texts that are refused."""

import time
import unittest

from helpers import code, text_of, text_without_last_feed
from linewords.instructions import Instruction, bytes_of
from linewords.texts import compile_text


class CompileCase(unittest.TestCase):
    def makes(self, rows, *instructions):
        """The rows make the instructions and the last halt, which is not written."""
        expected = [0] + code(*instructions) + [0]
        self.assertEqual(compile_text(text_of(*rows)), expected, rows)
        if rows and rows[-1]:
            self.assertEqual(compile_text(text_without_last_feed(*rows)), expected, rows)

    def refused(self, *rows):
        self.assertEqual(compile_text(text_of(*rows)), [-1], rows)
        self.assertEqual(compile_text(text_without_last_feed(*rows)), [-1], rows)


class Example(CompileCase):
    ROWS = ("get a", "while a", "put a", "set a - a 1", "end", "put / 7 a")

    def test_how_it_begins(self):
        begin = [0x13, 0x03, 0x00, 0x14, 0x02, 0x00, 0x00, 0x00, 0x02, 0x00, 0x0F]
        self.assertEqual(compile_text(text_of(*self.ROWS))[:12], [0] + begin)

    def test_the_whole_of_it(self):
        whole = (
            "13 03 00"
            " 14 02 00 00 00 02 00 0F 2F 00 00 00"
            " 14 03 00 00 00 02 00 12"
            " 14 04 00 00 00 02 00 01 01 00 00 00 00 00 00 00 07 03 00"
            " 0E 03 00 00 00"
            " 14 06 00 00 00 01 07 00 00 00 00 00 00 00 02 00 09 12"
            " 00"
        )
        self.assertEqual(compile_text(text_of(*self.ROWS)), [0] + list(bytes.fromhex(whole)))


class Lines(CompileCase):
    def test_empty_text(self):
        self.assertEqual(compile_text([]), [0, 0])

    def test_lines_without_code(self):
        for rows in ([""], [" \t\r"], ["#"], ["# put 1"], ["", "#", " "], ["# +"], ["# / 1 0", "#end", "#proc A"]):
            self.makes(rows)

    def test_set(self):
        self.makes(["set a 5"], "line 1, push 5, store 0")
        self.makes(["set z b"], "line 1, load 1, store 25")

    def test_get(self):
        self.makes(["get a"], "get, store 0")
        self.makes(["get z"], "get, store 25")

    def test_put(self):
        self.makes(["put 5"], "line 1, push 5, put")
        self.makes(["put m"], "line 1, load 12, put")

    def test_if(self):
        self.makes(["if a", "end"], "line 1, load 0, jz 12")

    def test_if_with_else(self):
        self.makes(["if a", "else", "end"], "line 1, load 0, jz 17, jmp 17")

    def test_while(self):
        self.makes(["while a", "end"], "line 1, load 0, jz 17, jmp 0")

    def test_proc(self):
        self.makes(["proc A", "end"], "jmp 6, ret")
        self.makes(["proc Z a b c d", "end"], "jmp 6, ret")

    def test_do(self):
        self.makes(["proc A", "end", "do A"], "jmp 6, ret, line 3, call 5 0")

    def test_stop(self):
        self.makes(["stop"], "halt")
        self.makes(["stop", "stop"], "halt, halt")

    def test_a_line_is_numbered_where_it_stands(self):
        for rows in (["put a"], ["set b a"], ["put ! 1"]):
            for before in ([""], ["# note", ""], ["#"] * 9):
                alone = compile_text(text_of(*rows))
                self.assertEqual(alone[1:6], code("line 1"))
                expected = [0] + code(f"line {len(before) + 1}") + alone[6:]
                self.assertEqual(compile_text(text_of(*before, *rows)), expected)
                self.assertEqual(compile_text(text_of(*before, *rows, "", "#")), expected)

    def test_lines_without_code_count(self):
        self.makes(["", "put 1", "# put 2", " ", "put 3"], "line 2, push 1, put", "line 5, push 3, put")
        self.makes(["", "if a", "", "#", "put b", "end", "while c", "end"],
                   "line 2, load 0, jz 20, line 5, load 1, put", "line 7, load 2, jz 37, jmp 20")
        self.makes(["", "proc A", "#", "end", "", "do A"], "jmp 6, ret, line 6, call 5 0")

    def test_blanks_change_nothing(self):
        self.makes(["\tput  +\r1 \t a\r"], "line 1, push 1, load 0, add, put")


class Numbers(CompileCase):
    def test_values(self):
        for written, value in (
            ("0", 0), ("-0", 0), ("1", 1), ("-1", -1), ("10", 10), ("255", 255), ("256", 256), ("-256", -256),
            ("9" * 18, 10 ** 18 - 1), ("-" + "9" * 18, 1 - 10 ** 18), ("1234567890", 1234567890),
            ("007", 7), ("-007", -7), ("0" * 18, 0), ("-" + "0" * 18, 0), ("0" * 17 + "9", 9),
            ("987654321012345678", 987654321012345678), ("-987654321012345678", -987654321012345678),
        ):
            self.makes(["put " + written], f"line 1, push {value}, put")

    def test_bytes(self):
        self.assertEqual(compile_text(text_of("put -1"))[6:15], [1] + [255] * 8)
        self.assertEqual(compile_text(text_of("put -2"))[6:15], [1, 254] + [255] * 7)
        self.assertEqual(compile_text(text_of("put -0"))[6:15], [1] + [0] * 8)
        self.assertEqual(compile_text(text_of("put 258"))[6:15], [1, 2, 1] + [0] * 6)
        largest = [0xFF, 0xFF, 0x63, 0xA7, 0xB3, 0xB6, 0xE0, 0x0D]
        self.assertEqual(compile_text(text_of("put " + "9" * 18))[6:15], [1] + largest)
        smallest = [0x01, 0x00, 0x9C, 0x58, 0x4C, 0x49, 0x1F, 0xF2]
        self.assertEqual(compile_text(text_of("put -" + "9" * 18))[6:15], [1] + smallest)


class Expressions(CompileCase):
    def test_operations(self):
        names = {"+": "add", "-": "sub", "*": "mul", "/": "div", "%": "mod", "<": "lt", "=": "eq"}
        for number, sign in enumerate("+-*/%<=", 6):
            self.makes([f"put {sign} 1 a"], f"line 1, push 1, load 0, {names[sign]}, put")
            self.makes([f"put {sign} a 1"], f"line 1, load 0, push 1, {names[sign]}, put")
            self.assertEqual(compile_text(text_of(f"put {sign} a b"))[10], number)
        self.makes(["put ! a"], "line 1, load 0, not, put")
        self.assertEqual(compile_text(text_of("put ! a"))[8], 13)

    def test_within_one_another(self):
        self.makes(["put + - a b * c d"], "line 1, load 0, load 1, sub, load 2, load 3, mul, add, put")
        self.makes(["put - - a b c"], "line 1, load 0, load 1, sub, load 2, sub, put")
        self.makes(["put - a - b c"], "line 1, load 0, load 1, load 2, sub, sub, put")
        self.makes(["put ! ! < ! a ! b"], "line 1, load 0, not, load 1, not, lt, not, not, put")
        self.makes(["put / % a -1 ! = 2 b"], "line 1, load 0, push -1, mod, push 2, load 1, eq, not, div, put")
        self.makes(["set a - -1 -2"], "line 1, push -1, push -2, sub, store 0")

    def test_sixty_words(self):
        self.makes(["put" + " !" * 58 + " a"], "line 1, load 0" + ", not" * 58 + ", put")
        self.makes(["put" + " +" * 29 + " a" * 30], "line 1, load 0" + ", load 0, add" * 29 + ", put")
        self.makes(["put" + " + a" * 29 + " b"], "line 1" + ", load 0" * 29 + ", load 1" + ", add" * 29 + ", put")

    def test_every_variable(self):
        for number, letter in enumerate("abcdefghijklmnopqrstuvwxyz"):
            self.makes([f"set {letter} {letter}", f"get {letter}"],
                       f"line 1, load {number}, store {number}, get, store {number}")


class Blocks(CompileCase):
    def test_if(self):
        self.makes(["if 1", "put a", "end", "put b"],
                   "line 1, push 1, jz 27, line 2, load 0, put", "line 4, load 1, put")

    def test_if_with_else(self):
        self.makes(["if a", "put a", "else", "put b", "end", "put c"], "line 1, load 0, jz 25, line 2, load 0, put",
                   "jmp 33, line 4, load 1, put", "line 6, load 2, put")

    def test_while(self):
        self.makes(["put a", "while b", "put c", "end", "put d"], "line 1, load 0, put", "line 2, load 1, jz 33",
                   "line 3, load 2, put, jmp 8", "line 5, load 3, put")

    def test_proc(self):
        self.makes(["put a", "proc P", "put b", "end", "put c"], "line 1, load 0, put", "jmp 22",
                   "line 3, load 1, put, ret", "line 5, load 2, put")

    def test_ends_and_elses_before_lines_without_code(self):
        self.makes(["if a", "# one", "else", "", "# two", "put b", "end", "", "# three", "put c"],
                   "line 1, load 0, jz 17, jmp 25, line 6, load 1, put, line 10, load 2, put")
        self.makes(["while a", "", "end", "#", ""], "line 1, load 0, jz 17, jmp 0")
        self.makes(["while a", "if b", "end", "end"], "line 1, load 0, jz 29, line 2, load 1, jz 24, jmp 0")
        self.makes(["proc A", "", "end", "", "#", "put a"], "jmp 6, ret, line 6, load 0, put")

    def test_an_else_straight_before_a_code_free_end(self):
        self.makes(["if a", "put b", "else", "end", "#"], "line 1, load 0, jz 25, line 2, load 1, put, jmp 25")

    def test_blocks_at_the_last_line(self):
        self.makes(["put a", "if b", "put c", "end"], "line 1, load 0, put, line 2, load 1, jz 28, line 3, load 2, put")
        self.makes(["if a", "if b", "if c", "end", "end", "end"],
                   "line 1, load 0, jz 36, line 2, load 1, jz 36, line 3, load 2, jz 36")
        self.makes(["if a", "else", "if b", "else", "end", "end"], "line 1, load 0, jz 17, jmp 34",
                   "line 3, load 1, jz 34, jmp 34")

    def test_ifs_within_ifs(self):
        self.makes(["if a", "if b", "put c", "else", "put d", "end", "else", "if e", "put f", "end", "end", "put g"],
                   "line 1, load 0, jz 50", "line 2, load 1, jz 37", "line 3, load 2, put", "jmp 45",
                   "line 5, load 3, put", "jmp 70", "line 8, load 4, jz 70", "line 9, load 5, put",
                   "line 12, load 6, put")

    def test_whiles_within_whiles(self):
        self.makes(["while a", "while b", "put c", "end", "put d", "end", "put e"],
                   "line 1, load 0, jz 50", "line 2, load 1, jz 37", "line 3, load 2, put", "jmp 12",
                   "line 5, load 3, put", "jmp 0", "line 7, load 4, put")

    def test_ifs_and_whiles(self):
        self.makes(["if a", "while b", "end", "else", "while c", "if d", "end", "end", "end"],
                   "line 1, load 0, jz 34", "line 2, load 1, jz 29, jmp 12", "jmp 63",
                   "line 5, load 2, jz 63", "line 6, load 3, jz 58", "jmp 34")
        self.makes(["while a", "if b", "else", "end", "end"],
                   "line 1, load 0, jz 34, line 2, load 1, jz 29, jmp 29, jmp 0")

    def test_within_a_proc(self):
        self.makes(["proc A", "if a", "put b", "else", "stop", "end", "while c", "end", "end", "put d"],
                   "jmp 49", "line 2, load 0, jz 30", "line 3, load 1, put", "jmp 31", "halt",
                   "line 7, load 2, jz 48, jmp 31", "ret", "line 10, load 3, put")

    def test_an_inner_end_is_no_ret(self):
        self.makes(["proc A", "if a", "end", "end"], "jmp 18, line 2, load 0, jz 17, ret")
        self.makes(["proc A", "while a", "end", "end"], "jmp 23, line 2, load 0, jz 22, jmp 5, ret")
        self.makes(["proc A", "end", "if a", "end", "proc B", "end"], "jmp 6, ret, line 3, load 0, jz 18, jmp 24, ret")

    def test_forty_open(self):
        whole = compile_text(text_of(*["if a"] * 40, *["end"] * 40))
        self.assertEqual(whole, [0] + code(*[f"line {number}, load 0, jz 480" for number in range(1, 41)]) + [0])
        whole = compile_text(text_of(*["while a"] * 40, *["end"] * 40))
        heads = [f"line {number}, load 0, jz {480 + 5 * (41 - number)}" for number in range(1, 41)]
        ends = [f"jmp {12 * number}" for number in range(39, -1, -1)]
        self.assertEqual(whole, [0] + code(*heads, *ends) + [0])


class Procedures(CompileCase):
    def test_parameters(self):
        self.makes(["proc A c a z y", "put c", "put a", "put z", "put y", "put b", "end"], "jmp 46",
                   "line 2, loadl 0, put", "line 3, loadl 1, put", "line 4, loadl 2, put", "line 5, loadl 3, put",
                   "line 6, load 1, put", "ret")

    def test_the_same_letter_outside(self):
        self.makes(["put x", "proc A x", "put x", "end", "put x"], "line 1, load 23, put", "jmp 22",
                   "line 3, loadl 0, put, ret", "line 5, load 23, put")
        self.makes(["proc A x", "end", "proc B y", "put x", "put y", "end"], "jmp 6, ret", "jmp 28",
                   "line 4, load 23, put, line 5, loadl 0, put, ret")

    def test_set_and_got(self):
        self.makes(["proc A b a", "set a b", "set c a", "get b", "get c", "end"], "jmp 30",
                   "line 2, loadl 0, storel 1", "line 3, loadl 1, store 2", "get, storel 0", "get, store 2", "ret")

    def test_within_blocks_of_a_procedure(self):
        self.makes(["proc A a", "while a", "if < a 3", "set a - a 1", "end", "end", "end", "if a", "end"],
                   "jmp 64", "line 2, loadl 0, jz 63", "line 3, loadl 0, push 3, lt, jz 58",
                   "line 4, loadl 0, push 1, sub, storel 0", "jmp 5", "ret", "line 8, load 0, jz 76")

    def test_do_before_and_behind(self):
        self.makes(["do A", "proc A", "end", "do A"], "line 1, call 16 0, jmp 17, ret, line 4, call 16 0")
        self.makes(["do B 1", "do A", "proc A", "end", "proc B b", "put b", "end"], "line 1, push 1, call 42 1",
                   "line 2, call 36 0", "jmp 37, ret", "jmp 51, line 6, loadl 0, put, ret")

    def test_do_within_a_procedure(self):
        self.makes(["proc A a", "do A a", "do B b a", "end", "proc B b c", "do A b", "end"], "jmp 34",
                   "line 2, loadl 0, call 5 1", "line 3, load 1, loadl 0, call 39 2", "ret",
                   "jmp 53", "line 6, loadl 0, call 5 1, ret")

    def test_how_many_numbers_a_call_takes(self):
        for count in range(5):
            head = "proc P" + "".join(" " + letter for letter in "abcd"[:count])
            pushes = "".join(f", push {number}" for number in range(count))
            words = "".join(f" {number}" for number in range(count))
            self.makes([head, "end", "do P" + words], "jmp 6, ret", f"line 3{pushes}, call 5 {count}")

    def test_expressions_in_order(self):
        self.makes(["proc P a b", "end", "do P + 1 a ! b"], "jmp 6, ret",
                   "line 3, push 1, load 0, add, load 1, not, call 5 2")

    def test_a_body_that_begins_without_code(self):
        self.makes(["do A", "proc A", "", "# note", "put a", "end"],
                   "line 1, call 16 0, jmp 25, line 5, load 0, put, ret")


class Places(CompileCase):
    def test_line_numbers_above_255(self):
        for before in (254, 255, 256, 257, 511, 512, 4095, 16377):
            whole = compile_text([10] * before + text_of("put a"))
            self.assertEqual(whole, [0] + code(f"line {before + 1}, load 0, put, halt"))
        self.assertEqual(compile_text([10] * 300 + text_of("put a"))[1:6], [20, 45, 1, 0, 0])

    def test_places_above_255(self):
        for count in (13, 14, 15, 16, 17, 18, 1000, 2700):
            whole = compile_text(text_of("if a", *["put a"] * count, "end"))
            self.assertEqual(whole[8:13], code(f"jz {12 + 8 * count}"))
            whole = compile_text(text_of(*["put a"] * count, "while a", "end"))
            self.assertEqual(whole[-6:-1], code(f"jmp {8 * count}"))

    def test_the_longest_code(self):
        # No text of 16,384 bytes has a place above 65,535: a do with four numbers makes the most of its bytes.
        row = "do A 1 1 1 1"
        text = text_of("proc A a b c d", "end") + text_of(row) * 1258
        self.assertLessEqual(len(text), 16384)
        whole = compile_text(text)
        self.assertEqual(len(whole), 1 + 6 + 47 * 1258 + 1)
        rows = [f"line {number}, push 1, push 1, push 1, push 1, call 5 4" for number in range(3, 1261)]
        self.assertEqual(whole, [0] + code("jmp 6, ret", *rows, "halt"))
        behind = compile_text(text_of(*[row] * 1250, "proc A a b c d", "end"))
        self.assertEqual(behind[42:48], code(f"call {47 * 1250 + 5} 4"))
        self.assertGreater(47 * 1250, 58000)

    def test_all_bytes_of_an_operand(self):
        for place in (65535, 65536, 16777215, 16777216, 0x12345678, 4294967295):
            self.assertEqual(bytes_of(Instruction(14, [place])), code(f"jmp {place}"))
            self.assertEqual(bytes_of(Instruction(15, [place])), code(f"jz {place}"))
            self.assertEqual(bytes_of(Instruction(16, [place, 255])), code(f"call {place} 255"))
            self.assertEqual(bytes_of(Instruction(20, [place])), code(f"line {place}"))


class Refusals(CompileCase):
    def test_wrong_lines(self):
        for row in ("x", "end", "else", "put", "put A", "put 1 2", "put - 5", "set", "set a", "set 1 1", "get", "get 1",
                    "get a b", "if", "while", "if 1 1", "stop 1", "do", "do A", "do a", "proc", "proc a", "proc A 1",
                    "proc A a a", "proc A a b c d e", "put " + "1" * 19, "put -", "# " + "w " * 60, "put 1 #", "\0",
                    "put" + " !" * 59 + " 1", "else end", "end end", "put \xff"):
            self.refused(row)
            self.refused("put 1", row, "put 2")
            self.refused("if 1", "end", row)

    def test_wrong_places(self):
        self.refused("if 1", "else", "else", "end")
        self.refused("while 1", "else", "end")
        self.refused("proc A", "else", "end")
        self.refused("if 1", "proc A", "end", "end")
        self.refused("proc A", "end", "proc A", "end")
        self.refused("if 1", "end", "end")
        self.refused(*["if 1"] * 41, *["end"] * 41)
        self.refused("do A 1", "proc A", "end")
        self.refused("do A", "proc A a", "end")
        self.refused("proc A a b", "end", "do A + 1 2")

    def test_open_blocks(self):
        for row in ("if 1", "while 1", "proc A"):
            self.refused(row)
            self.refused(row, "put 1")
            self.refused(row, "if 1", "end")
        self.refused("if 1", "else")

    def test_too_long(self):
        for byte in (10, 32, 35):
            self.assertEqual(compile_text([byte] * 16384), [0, 0])
            self.assertEqual(compile_text([byte] * 16385), [-1])
            self.assertEqual(compile_text([byte] * 16500), [-1])
        self.assertEqual(compile_text(text_of("stop") + [10] * 16379), [0, 0, 0])
        self.assertEqual(compile_text(text_of("stop") + [10] * 16380), [-1])


class LongTexts(CompileCase):
    def test_they_end_in_reasonable_time(self):
        rows = ["put" + " +" * 29 + " a" * 30, "if a", "while 1", "put a", "#", "get a", "put" + " !" * 58 + " 1"]
        for row in rows:
            ends = row in ("if a", "while 1")
            part = text_of(row, "end") if ends else text_of(row)
            text = part * (16384 // len(part))
            begin = time.monotonic()
            self.assertEqual(compile_text(text)[0], 0)
            self.assertLess(time.monotonic() - begin, 5)


if __name__ == "__main__":
    unittest.main()
