"""asm: each instruction with its operands at their edges, words that are none, and what show writes."""

import random
import time
import unittest

from helpers import LAYOUTS, LEAST, MOST, NAMES, code
from linewords.texts import asm, show

LARGEST = {"load": [255], "store": [255], "loadl": [255], "storel": [255], "jmp": [2 ** 32 - 1], "jz": [2 ** 32 - 1]}
LARGEST.update({"call": [2 ** 32 - 1, 255], "line": [2 ** 32 - 1], "push": [MOST]})


class AsmCase(unittest.TestCase):
    def reads(self, words, written=None):
        """The words stand for the instruction, which is written plainly if not given so."""
        made = code(written or words)
        self.assertEqual(asm([ord(sign) for sign in words]), [len(made)] + made, words[:200])

    def wrong(self, *texts):
        for words in texts:
            self.assertEqual(asm([ord(sign) for sign in words]), [-1], words[:200])


class Examples(AsmCase):
    def test_push(self):
        self.assertEqual(asm(list(b"push -1")), [9, 1] + [255] * 8)

    def test_load(self):
        self.assertEqual(asm(list(b"load 256")), [-1])


class Operands(AsmCase):
    def test_without_operands(self):
        for number, name in enumerate(NAMES):
            if name not in LAYOUTS:
                self.assertEqual(asm(list(name.encode())), [1, number])
                self.wrong(name + " 0", name + " 1", name + " 0 0", name + " -", name + " " + name)

    def test_least_and_largest(self):
        for name, largest in LARGEST.items():
            least = [LEAST] if name == "push" else [0] * len(largest)
            self.reads(" ".join([name] + [str(operand) for operand in least]))
            self.reads(" ".join([name] + [str(operand) for operand in largest]))
            self.reads(" ".join([name] + ["1"] * len(largest)))
            for at in range(len(largest)):
                for operand in (largest[at] + 1, largest[at] + 2, largest[at] * 2, 2 ** 64, 2 ** 64 + 1, 10 ** 20, 10 ** 21):
                    operands = ["1"] * len(largest)
                    operands[at] = str(operand)
                    self.wrong(" ".join([name] + operands))

    def test_in_between(self):
        for operand in (2, 9, 10, 99, 100, 127, 128, 254):
            self.reads(f"load {operand}")
            self.reads(f"storel {operand}")
            self.reads(f"call {operand} {operand}")
        for operand in (255, 256, 65535, 65536, 16777215, 16777216, 2 ** 31 - 1, 2 ** 31, 0x12345678):
            self.reads(f"jmp {operand}")
            self.reads(f"jz {operand}")
            self.reads(f"line {operand}")
            self.reads(f"call {operand} 7")
        self.wrong("loadl 256", "storel 300", "store 256", "call 0 256", "call 4294967296 0", "jz 99999999999")

    def test_push(self):
        for number in (0, 1, -1, 9, 10, -10, 255, -256, 2 ** 32, -2 ** 32, MOST, MOST - 1, LEAST, LEAST + 1):
            self.reads(f"push {number}")
        self.wrong(f"push {MOST + 1}", f"push {LEAST - 1}", f"push {2 ** 64 - 1}", f"push {2 ** 64}", f"push -{2 ** 64}")
        self.wrong(f"push {10 ** 19}", f"push -{10 ** 19}", f"push {10 ** 20}", f"push -{10 ** 20}", "push " + "9" * 30)
        self.reads("push -0", "push 0")
        self.reads("push -00", "push 0")
        self.reads("push -" + str(-LEAST))

    def test_too_few_and_too_many(self):
        for name, largest in LARGEST.items():
            for count in range(6):
                words = name + " 1" * count
                if count == len(largest):
                    self.reads(words)
                else:
                    self.wrong(words)

    def test_many_words(self):
        self.wrong("halt" + " 1" * 8000, "push" + " 1" * 8000, " ".join(["halt"] * 3000), "halt halt")


class Numbers(AsmCase):
    def test_leading_zeros(self):
        for zeros in (1, 2, 17, 18, 19, 20, 21, 100, 4300, 5000, 16000):
            self.reads("push " + "0" * zeros + "7", "push 7")
            self.reads("push -" + "0" * zeros + "7", "push -7")
            self.reads("push " + "0" * zeros, "push 0")
            self.reads("push -" + "0" * zeros, "push 0")
            self.reads("load " + "0" * zeros + "255", "load 255")
            self.reads("push -" + "0" * zeros + str(-LEAST), f"push {LEAST}")
            self.reads("jmp " + "0" * zeros + "4294967295", "jmp 4294967295")
            self.reads("call " + "0" * zeros + "9 " + "0" * 20 + "8", "call 9 8")
            self.wrong("load " + "0" * zeros + "256", "push " + "0" * zeros + str(MOST + 1))
            self.wrong("push -" + "0" * zeros + str(MOST + 2), "jz " + "0" * zeros + "4294967296")

    def test_many_digits(self):
        begin = time.monotonic()
        for digit in "19":
            for length in (20, 21, 40, 4299, 4300, 4301, 5000, 16490):
                self.wrong("push " + digit * length, "push -" + digit * length, "load " + digit * length)
                self.wrong("push 1" + "0" * length, "line 1" + "0" * length)
        self.assertLess(time.monotonic() - begin, 5)

    def test_the_longest_text(self):
        self.reads("push " + "0" * 16494 + "7", "push 7")
        self.reads(" " * 16496 + "halt", "halt")
        self.reads("halt" + "\n" * 16496, "halt")
        self.wrong("x" * 16500, " " * 16500, "1 " * 8250)

    def test_no_numbers(self):
        for word in ("-", "--1", "--", "+1", "+", "1-", "1+", "-+1", "+-1", "a", "1a", "a1", "0x1", "1_0", "1.0", "1,", "-a",
                     "1e3", "/", ":", "1/", "1:", "/1", ":1", "'1", "-1-", "- 1", "\0", "1\0", "\xb2", "\xb9", "1\xb2", "\xff1"):
            self.wrong("push " + word, "load " + word, "jmp " + word, "call 1 " + word, "call " + word + " 1")

    def test_a_minus_is_pushs_alone(self):
        for name, largest in LARGEST.items():
            for at in range(len(largest)):
                for operand in ("-0", "-1", "-00", "-255", "-256"):
                    operands = ["0"] * len(largest)
                    operands[at] = operand
                    words = " ".join([name] + operands)
                    if name == "push":
                        self.reads(words)
                    else:
                        self.wrong(words)

    def test_every_byte_within_a_number(self):
        for byte in range(256):
            sign = chr(byte)
            if byte in (9, 10, 13, 32):
                self.reads(f"call 1{sign}2", "call 1 2")
                self.reads(f"push{sign}12", "push 12")
            elif 48 <= byte <= 57:
                self.reads(f"push 1{sign}2", f"push 1{sign}2")
            else:
                self.wrong(f"push 1{sign}2", f"push 12{sign}", f"load 1{sign}", f"call 1{sign}2", f"push -1{sign}")
                self.wrong(f"push{sign}12", f"push 12 {sign}", f"halt{sign}", f"{sign}halt", f"{sign} halt", f"halt {sign}")
                if sign != "-":
                    self.wrong(f"push {sign}12", f"load {sign}1")


class Names(AsmCase):
    def test_no_words(self):
        self.assertEqual(asm([]), [-1])
        self.wrong(" ", "\n", "\t\r\n ", "\n\n\n")

    def test_no_names(self):
        for name in NAMES:
            operands = "".join(" 1" for _ in LARGEST.get(name, []))
            for word in (name.upper(), name.capitalize(), name[:-1], name[1:], name + "s", name + "1", name + "-", "x" + name,
                         name + ":", name + "\0", "\0" + name, name + "\xff", name + name, "#" + name, name[::-1]):
                if word not in NAMES:
                    self.wrong(word, word + operands, word + " 1")
        self.wrong("1", "0", "20", "push1", "1 push", "1 5", "nop", "jnz 1", "jump 1", "a", "set a 1", "lin e 1")

    def test_a_name_stands_first(self):
        self.wrong("1 push", "5 load", "1 call 2", "1 2 call", "halt push 1", "push halt", "push push 1")

    def test_what_is_called_like_another_but_for_an_l(self):
        self.assertEqual(asm(list(b"load 1")), [2, 2, 1])
        self.assertEqual(asm(list(b"loadl 1")), [2, 4, 1])
        self.assertEqual(asm(list(b"store 1")), [2, 3, 1])
        self.assertEqual(asm(list(b"storel 1")), [2, 5, 1])
        self.wrong("load l 1", "store l 1")


class Blanks(AsmCase):
    def test_before_between_and_behind(self):
        for blank in (" ", "\t", "\r", "\n", "  ", " \t\r\n", "\n\n", "\r\n"):
            self.reads(f"{blank}call{blank}1{blank}2{blank}", "call 1 2")
            self.reads(f"{blank}halt", "halt")
            self.reads(f"halt{blank}", "halt")
            self.reads(f"push{blank}-5", "push -5")
            self.wrong(f"push -{blank}5", f"pu{blank}sh 5", f"push 5{blank}5")

    def test_no_blanks(self):
        for sign in "\x0b\x0c\0\x1c\x1d\x1e\x1f\x85\xa0":
            self.wrong(f"{sign}halt", f"halt{sign}", f"push{sign}5", f"push 5{sign}", f"push {sign}5", f"call 1{sign}2", sign)


class AgainstShow(AsmCase):
    def again(self, made):
        answer = show(0, made)
        self.assertEqual(answer[0], len(made), made)
        self.assertEqual(asm(answer[1:]), [len(made)] + made)

    def test_every_instruction(self):
        chance = random.Random(31)
        sizes = [1, 9, 2, 2, 2, 2, 1, 1, 1, 1, 1, 1, 1, 1, 5, 5, 6, 1, 1, 1, 5]
        for number, size in enumerate(sizes):
            for byte in range(256):
                self.again([number] + [byte] * (size - 1))
            for _ in range(200):
                self.again([number] + [chance.randrange(256) for _ in range(size - 1)])
                self.again([number] + [chance.choice([0, 0, 1, 127, 128, 255, 255]) for _ in range(size - 1)])

    def test_at_any_place_of_any_bytes(self):
        chance = random.Random(32)
        found = 0
        for _ in range(300):
            made = [chance.choice([chance.randrange(22), chance.randrange(256)]) for _ in range(30)]
            for at in range(32):
                answer = show(at, made)
                if answer != [0]:
                    found += 1
                    self.assertEqual(asm(answer[1:]), answer[:1] + made[at:at + answer[0]])
        self.assertGreater(found, 1000)


if __name__ == "__main__":
    unittest.main()
