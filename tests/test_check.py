"""check: each kind of line, right and wrong, and the edges that the document names."""

import unittest

from helpers import text_of, text_without_last_feed
from linewords.texts import check


class CheckCase(unittest.TestCase):
    def answers(self, number, *rows):
        self.assertEqual(check(text_of(*rows)), [number], rows)
        if rows[-1]:
            self.assertEqual(check(text_without_last_feed(*rows)), [number], rows)

    def right(self, *rows):
        self.answers(0, *rows)

    def each_right(self, *rows):
        for row in rows:
            self.right(row)
            self.right("get a", row, "put a")

    def each_wrong(self, *rows):
        for row in rows:
            self.answers(1, row)
            self.answers(2, "get a", row, "put a")


class Examples(CheckCase):
    def test_the_first_program(self):
        self.right("get a", "while a", "put a", "set a - a 1", "end", "put / 7 a")

    def test_second_else(self):
        self.answers(3, "if 1", "else", "else", "end")

    def test_block_without_end(self):
        self.answers(2, "while 1")

    def test_do_of_no_procedure(self):
        self.answers(1, "do A")

    def test_number_of_nineteen_digits(self):
        self.answers(1, "set a 1234567890123456789")

    def test_minus(self):
        self.answers(1, "put - 5")
        self.right("put -5")


class Lengths(CheckCase):
    def test_empty_text(self):
        self.assertEqual(check([]), [0])

    def test_longest_text(self):
        self.assertEqual(check([10] * 16384), [0])
        self.assertEqual(check([35] * 16384), [0])
        self.assertEqual(check([0] * 16384), [1])
        self.assertEqual(check([10] * 16383 + [0]), [16384])
        self.assertEqual(check([10] * 16377 + text_of("if 1 ")[:-1] + [10, 35]), [16380])

    def test_too_long(self):
        for byte in (10, 32, 35, 97, 0, 255):
            for length in (16385, 16386, 16500):
                self.assertEqual(check([byte] * length), [-1])
        self.assertEqual(check(text_of("end") + [10] * 16381), [-1])

    def test_wrong_line_in_a_longest_text(self):
        text = text_of("if 1") * 40 + text_of("end") * 40
        padded = text + [10] * (16384 - len(text) - 4) + text_of("end")
        self.assertEqual(len(padded), 16384)
        self.assertEqual(check(padded), [16384 - len(text) - 4 + 81])


class Lines(CheckCase):
    def test_lines_that_do_nothing(self):
        self.each_right("", " ", "\t", "\r", " \t\r ", "#", "# end", "#end", " \t#put", "## \0 \xff", "#\x0b")

    def test_hash_elsewhere(self):
        self.each_wrong("put 1 #", "put #", "stop # here", "a#", "put#", "put 1#")

    def test_lines_are_counted(self):
        self.answers(4, "", "# note", " ", "end", "end")
        self.assertEqual(check(text_of("", "", "x")), [3])
        self.assertEqual(check([10, 10, 10]), [0])

    def test_last_line_feed(self):
        self.assertEqual(check(text_of("if 1")), [2])
        self.assertEqual(check(text_without_last_feed("if 1")), [2])
        self.assertEqual(check(text_of("if 1") + [10]), [3])
        self.assertEqual(check(text_of("if 1") + [32]), [3])
        self.assertEqual(check(text_of("if 1") + [35]), [3])
        self.assertEqual(check(text_of("if 1", "end") + [32]), [0])

    def test_blanks(self):
        self.each_right("  put 1", "put 1  ", "\tput\t1\t", "put 1\r", "\rput\r1", " \t\r put \r\t + \t 1\r2 \r")
        self.each_wrong("pu t 1", "put 1 \t2", "put\r", "put1")

    def test_line_feed_ends_a_line(self):
        self.answers(1, "put", "1")
        self.answers(2, "put 1", "2")

    def test_bytes_that_are_no_blanks(self):
        for byte in [0, 1, 8, 11, 12, 14, 31, 127] + list(range(128, 256)):
            sign = chr(byte)
            self.each_wrong(sign, "stop" + sign, sign + "stop", "put" + sign + "1", "put 1" + sign, "stop " + sign)
            self.each_wrong("put a" + sign, "get " + sign, "get" + sign + "a", sign + "#")
            self.each_right("#" + sign, "# " + sign + " " + sign)

    def test_sixty_words(self):
        self.right("put" + " !" * 58 + " 1")
        self.answers(1, "put" + " !" * 59 + " 1")
        self.right("#" + " w" * 59)
        self.answers(1, "#" + " w" * 60)
        self.answers(1, "#" + " w" * 61)
        self.answers(2, "", "#w" + "\tw" * 60 + " ", "end")
        self.answers(1, "stop" + " stop" * 60)
        self.right("#" + "w" * 300)


class Kinds(CheckCase):
    def test_unknown_first_words(self):
        self.each_wrong("x", "a", "A", "1", "-5", "+", "SET a 1", "Put 1", "sets a 1", "se a 1", "pu 1", "puts 1")
        self.each_wrong("print 1", "ends", "elseif 1", "stopp", "halt", "line 1", "let a 1", "i f 1", "en", "sto")

    def test_every_short_word_alone(self):
        letters = [chr(byte) for byte in range(33, 127) if byte != 35]
        for first in letters:
            self.answers(1, first)
            for second in letters:
                self.assertEqual(check([ord(first), ord(second)]), [1])

    def test_set(self):
        self.each_right("set a 1", "set z a", "set a + a 1", "set m -0")
        self.each_wrong("set", "set a", "set 1", "set 1 1", "set A 1", "set ab 1", "set a A", "set + 1 1", "set - 1")
        self.each_wrong("set a 1 1", "set a b c", "set a + 1", "set a + 1 1 1", "set ` 1", "set { 1", "set a =")

    def test_get(self):
        self.each_right("get a", "get z", "get m")
        self.each_wrong("get", "get 1", "get A", "get ab", "get a b", "get a 1", "get +", "get ! a", "get `", "get {")

    def test_put(self):
        self.each_right("put 1", "put a", "put z", "put ! a", "put = a b")
        self.each_wrong("put", "put A", "put ab", "put 1 1", "put a b", "put put", "put `", "put {", "put @", "put [")

    def test_if_and_while(self):
        for word in ("if", "while"):
            for condition in ("1", "a", "! a", "< a b", "-1"):
                self.right(word + " " + condition, "end")
            for condition in ("", " A", " 1 1", " + 1", " + 1 1 1", " a b", " if", " ab"):
                self.answers(1, word + condition, "end")

    def test_else(self):
        self.right("if 1", "else", "end")
        for row in ("else 1", "else a", "else if 1", "else else", "else #"):
            self.answers(2, "if 1", row, "end")

    def test_end(self):
        self.right("if 1", "end")
        for row in ("end if", "end 1", "end end", "end #"):
            self.answers(2, "if 1", row)

    def test_stop(self):
        self.each_right("stop", " stop ")
        self.each_wrong("stop 1", "stop a", "stop stop", "stop #")

    def test_proc(self):
        self.right("proc A", "end")
        self.right("proc Z a z", "end")
        for row in ("proc", "proc a", "proc AB", "proc 1", "proc @", "proc [", "proc +", "proc A 1", "proc A A"):
            self.answers(1, row, "end")
        for row in ("proc A ab", "proc A a 1", "proc A + a b", "proc A `", "proc A {", "proc A a B", "proc A #"):
            self.answers(1, row, "end")

    def test_do(self):
        self.right("proc A a", "end", "do A + 1 2")
        for row in ("do", "do a", "do 1", "do AA 1", "do A", "do A 1 2", "do A +", "do A + 1", "do A B", "do A proc"):
            self.answers(3, "proc A a", "end", row)


class Expressions(CheckCase):
    def test_numbers(self):
        for digits in ("0", "7", "007", "1" * 18, "9" * 18, "0" * 18):
            self.each_right("put " + digits, "put -" + digits, "set a " + digits)
        for digits in ("1" * 19, "0" * 19, "9" * 20, "1" * 300):
            self.each_wrong("put " + digits, "put -" + digits, "set a " + digits)
        self.each_right("put " + "1" * 17, "put -" + "1" * 17)

    def test_words_that_are_no_numbers(self):
        self.each_wrong("put --5", "put +5", "put 5-", "put 1-1", "put -a", "put 1a", "put a1", "put 0x1", "put 1_0")
        self.each_wrong("put 1.0", "put 1,", "put /5", "put :5", "put 5:", "put 5/", "put -5-", "put \xb2", "put \xb9")

    def test_every_byte_within_a_number(self):
        for byte in range(256):
            if byte not in (9, 10, 13, 32):
                digit = 48 <= byte <= 57
                self.answers(0 if digit else 1, "put 1" + chr(byte))
                self.answers(0 if digit else 1, "put -1" + chr(byte) + "1")
                self.answers(0 if digit or byte == 45 else 1, "put " + chr(byte) + "1")

    def test_every_byte_as_a_word(self):
        for byte in range(256):
            if byte not in (9, 10, 13, 32):
                sign = chr(byte)
                alone = sign.isascii() and (sign.isdigit() or sign.islower())
                self.answers(0 if alone else 1, "put " + sign)
                self.answers(0 if sign == "!" else 1, "put " + sign + " 1")
                self.answers(0 if sign in "+-*/%<=" else 1, "put " + sign + " 1 1")
                self.answers(1, "put " + sign + " 1 1 1")

    def test_minus_alone(self):
        self.each_wrong("put -", "put 5 -", "put - 5", "put 5 - 5", "put a - 1", "put 5 5 -", "put + 5 -", "set a -")
        self.each_right("put - 5 5", "put - -5 -5", "put - - 5 5 5", "put - 5 - 5 5", "put ! - 1 1", "put + - 1 2 3")

    def test_operands(self):
        for sign in "+-*/%<=":
            self.each_right("put " + sign + " 1 a", "put " + sign + " ! 1 " + sign + " a b")
            self.each_wrong("put " + sign, "put " + sign + " 1", "put " + sign + " 1 2 3", "put 1 " + sign + " 2")
            self.each_wrong("put " + sign + sign + " 1 2", "put " + sign + "1 2", "put " + sign + " A 1")
            self.each_wrong("put " + sign + " 1 A", "put " + sign + " 1 " + sign, "put 1 2 " + sign)
            self.each_wrong("put " + sign + " A", "put " + sign + " x1", "put " + sign + " " + sign + " 1 put")
        self.each_right("put ! 1", "put ! a", "put ! ! a", "put ! + 1 2")
        self.each_wrong("put !", "put ! 1 2", "put ! !", "put !1", "put ! A", "put 1 !", "put !!", "put !! 1")

    def test_operations_of_more_signs(self):
        self.each_wrong("put == 1 1", "put <= 1 1", "put > 1 1", "put != 1 1", "put ** 1 1", "put // 1 1", "put ( 1 )")

    def test_sixty_words_filled(self):
        self.right("set a" + " +" * 28 + " 1" * 29 + " ")
        self.right("put" + " + 1" * 29 + " a")
        self.answers(1, "put" + " + 1" * 29)
        self.answers(1, "put" + " + 1" * 28 + " a a")
        self.answers(1, "put" + " + 1" * 29 + " a a")
        self.right("if" + " *" * 29 + " b" * 30, "end")
        self.answers(1, "if" + " *" * 30 + " b" * 29, "end")
        self.answers(1, "while" + " *" * 28 + " b" * 31, "end")


class Blocks(CheckCase):
    def nested(self, count, word="if 1"):
        return [word] * count, ["end"] * count

    def test_forty_open(self):
        for word in ("if 1", "while a"):
            heads, ends = self.nested(40, word)
            self.right(*heads, *ends)
            self.right(*heads, *ends, *heads, *ends)
            self.right(*heads, "end", word, *ends)
            heads, ends = self.nested(41, word)
            self.answers(41, *heads, *ends)

    def test_forty_open_of_both_kinds(self):
        self.right(*["if 1", "while 1"] * 20, *["end"] * 40)
        self.answers(41, *["if 1", "while 1"] * 20, "if 1", *["end"] * 41)
        self.answers(41, *["if 1", "while 1"] * 20, "while 1", *["end"] * 41)
        self.right(*["if 1", "else"] * 40, *["end"] * 40)
        self.answers(81, *["if 1", "else"] * 40, "if 1", *["end"] * 41)

    def test_forty_open_with_a_proc(self):
        heads, ends = self.nested(39)
        self.right("proc A", *heads, *ends, "end")
        heads, ends = self.nested(40)
        self.answers(41, "proc A", *heads, *ends, "end")
        self.right("proc A", "end", *heads, *ends, "proc B", "end")

    def test_many_blocks_behind_one_another(self):
        self.right(*["if 1", "end"] * 200)
        self.right(*["if 1", "else", "while 1", "end", "end"] * 100)

    def test_else(self):
        self.answers(1, "else")
        self.answers(1, "else", "end")
        self.answers(2, "while 1", "else", "end")
        self.answers(2, "proc A", "else", "end")
        self.answers(3, "if 1", "while 1", "else", "end", "end")
        self.answers(3, "if 1", "end", "else")
        self.answers(3, "if 1", "else", "else", "end")
        self.right("proc A", "if 1", "else", "end", "end")
        self.right("while 1", "if 1", "else", "end", "end")

    def test_else_behind_an_inner_block(self):
        self.right("if 1", "if 1", "end", "else", "end")
        self.right("if 1", "if 1", "else", "end", "else", "end")
        self.right("if 1", "while 1", "end", "else", "if 1", "else", "end", "end")
        self.answers(5, "if 1", "else", "if 1", "end", "else", "end")
        self.answers(7, "if 1", "if 1", "else", "end", "else", "put 1", "else", "end")
        self.answers(4, "while 1", "if 1", "end", "else", "end")
        self.answers(4, "proc A", "if 1", "end", "else", "end")

    def test_end_with_nothing_open(self):
        self.answers(1, "end")
        self.answers(3, "if 1", "end", "end")
        self.answers(4, "if 1", "else", "end", "end")
        self.answers(3, "while 1", "end", "end")
        self.answers(3, "proc A", "end", "end")

    def test_proc_in_a_block(self):
        for word in ("if 1", "while 1", "proc B"):
            self.answers(2, word, "proc A", "end", "end")
            self.answers(4, word, "put 1", "", "proc A", "end", "end")
        self.answers(3, "if 1", "else", "proc A", "end", "end")
        self.answers(3, "proc B", "if 1", "proc A", "end", "end", "end")
        self.right("if 1", "end", "proc A", "end", "while 1", "end", "proc B", "end")

    def test_still_open_at_the_end(self):
        for word in ("if 1", "while 1", "proc A"):
            self.answers(2, word)
            self.answers(3, word, "put 1")
            self.answers(4, "", word, "# note")
            self.answers(4, word, "if 1", "end")
        self.answers(3, "if 1", "else")
        self.answers(4, "if 1", "while 1", "end")

    def test_wrong_line_before_an_open_block(self):
        self.answers(2, "if 1", "put", "put 1")
        self.answers(1, "put", "if 1")


class Procedures(CheckCase):
    def test_parameters(self):
        for row in ("proc A", "proc A a", "proc A a b", "proc A a b c", "proc A a b c d", "proc A z y x w"):
            self.right(row, "end")
        self.answers(1, "proc A a b c d e", "end")
        self.answers(1, "proc A a b c d a", "end")
        for row in ("proc A a a", "proc A a b a", "proc A a b b", "proc A a b c a", "proc A b a c a", "proc A a a a a"):
            self.answers(1, row, "end")

    def test_one_name_twice(self):
        self.answers(3, "proc A", "end", "proc A", "end")
        self.answers(3, "proc A", "end", "proc A a", "end")
        self.answers(5, "proc A", "end", "proc B", "end", "proc A", "end")
        names = [row for letter in "ABCDEFGHIJKLMNOPQRSTUVWXYZ" for row in ("proc " + letter, "end")]
        self.right(*names)
        self.answers(53, *names, "proc Q", "end")

    def test_do_before_behind_and_within(self):
        self.right("do A", "proc A", "end")
        self.right("proc A", "end", "do A")
        self.right("proc A a", "do A a", "end")
        self.right("proc A", "do B 1", "end", "proc B a", "do A", "end", "if 1", "do A", "end")
        self.right("do A 1", "proc A b", "end", "do A a", "do A b")

    def test_do_of_no_procedure(self):
        self.answers(1, "do B", "proc A", "end")
        self.answers(3, "proc A", "end", "do B")
        self.answers(1, "do A", "# proc A", "#proc A")
        self.answers(1, "do A 1", "put 1")

    def test_numbers_of_expressions(self):
        for count in range(5):
            head = "proc P" + "".join(" " + letter for letter in "abcd"[:count])
            for given in range(7):
                number = 0 if given == count else 1
                self.answers(number, "do P" + " 1" * given, head, "end")
                self.answers(number, "do P" + " + a ! b" * given, head, "end")
                self.answers(3 if number else 0, head, "end", "do P" + " -1" * given)
            self.answers(1, "do P" + " 1" * count + " +", head, "end")

    def test_words_of_one_expression_are_not_counted_as_several(self):
        self.answers(1, "do A + 1 2", "proc A a b c", "end")
        self.answers(1, "do A + 1 2", "proc A a b", "end")
        self.right("do A + 1 2 3", "proc A a b", "end")
        self.right("do A 1 + 2 3", "proc A a b", "end")
        self.answers(1, "do A 1 2 +", "proc A a b", "end")

    def test_words_that_are_no_expressions(self):
        for head in ("proc A a", "proc A a b", "proc A a b c", "proc A a b c d"):
            for given in range(6):
                for at in range(given):
                    words = ["1"] * given
                    words[at] = "B"
                    self.answers(1, "do A " + " ".join(words), head, "end")

    def test_do_of_sixty_words(self):
        self.right("do A" + " !" * 56 + " 1 1", "proc A a b", "end")
        self.answers(1, "do A" + " !" * 57 + " 1 1", "proc A a b", "end")

    def test_proc_line_in_a_block_tells(self):
        self.answers(3, "do A", "if 1", "proc A", "end", "end")
        self.answers(3, "do A 1", "while 1", "proc A a", "end", "end")
        self.answers(3, "do A 1", "proc B", "proc A a", "end", "end")
        self.answers(1, "do A", "if 1", "proc A a", "end", "end")

    def test_proc_line_behind_a_wrong_line_tells(self):
        self.answers(2, "do A", "x", "proc A", "end")
        self.answers(2, "do A", "end", "proc A", "end")
        self.answers(1, "do A", "x", "proc A a", "end")

    def test_proc_line_that_is_not_rightly_written_tells_none(self):
        for row in ("proc A 1", "proc A a a", "proc A B", "proc A A", "proc A a b c d e", "proc A #", "proc AA", "Proc A"):
            for given in range(6):
                self.answers(1, "do A" + " 1" * given, row, "end")
        self.answers(1, "do A", "proc A" + " a" * 59, "end")
        self.answers(2, "do A", "proc A 1", "end", "proc A", "end")
        self.answers(1, "do A", "proc A 1", "end", "proc A a", "end")

    def test_the_first_of_several_tells(self):
        self.answers(1, "do A 1", "proc A", "end", "proc A a", "end")
        self.answers(4, "do A", "proc A", "end", "proc A a", "end")
        self.answers(4, "do A 1", "proc A a", "end", "proc A", "end")
        self.answers(1, "do A", "proc A a", "end", "proc A", "end")
        self.answers(3, "do A 1", "if 1", "proc A a", "end", "end", "proc A", "end")
        self.answers(1, "do A", "if 1", "proc A a", "end", "end", "proc A", "end")
        self.answers(3, "proc A a b", "end", "do A 1", "proc A a", "end")

    def test_procedures_and_variables_are_told_apart(self):
        self.answers(1, "do a", "proc A", "end")
        self.answers(2, "do A", "proc a", "proc A", "end")
        self.answers(3, "proc A", "end", "put A")


class FirstWrongLine(CheckCase):
    def test_the_first_of_several(self):
        rows = ["x", "put", "else", "end", "do A", "proc", "get 1", "stop 1", "set a", "# " + "w " * 60, "if", "while"]
        for at, row in enumerate(rows):
            for other in rows:
                self.answers(1, row, other)
                self.answers(2, "put 1", row, "put 2", other)
            self.answers(3, "if 1", "end", *rows[at:])
            if row not in ("else", "end"):
                self.answers(2, "if 1", row, *rows)

    def test_wrong_places_and_wrong_words(self):
        self.answers(2, "put 1", "end", "put")
        self.answers(2, "put 1", "put", "end")
        self.answers(3, "proc A", "end", "proc A", "put")
        self.answers(1, "do A", "proc A a", "proc B", "x")


if __name__ == "__main__":
    unittest.main()
