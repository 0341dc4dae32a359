"""show: each instruction with its operands, and the places where no whole instruction stands."""

import unittest

from helpers import LEAST, LAYOUTS, MOST, NAMES, code
from linewords.texts import show

SIZES = dict(zip(NAMES, [1, 9, 2, 2, 2, 2, 1, 1, 1, 1, 1, 1, 1, 1, 5, 5, 6, 1, 1, 1, 5]))


class ShowCase(unittest.TestCase):
    def shows(self, written, at, given):
        answer = show(at, given)
        self.assertEqual("".join(map(chr, answer[1:])), written, (at, given))
        self.assertEqual(answer[0], SIZES[written.split()[0]])

    def none(self, at, given):
        self.assertEqual(show(at, given), [0], (at, given[:20]))

    def whole(self, written):
        """The words stand for the code, wherever it lies and whatever lies around it."""
        made = code(written)
        self.shows(written, 0, made)
        for behind in ([0], [1], [21], [255] * 9, code("push 7")):
            self.shows(written, 0, made + behind)
            self.shows(written, len(behind), behind + made)
            self.shows(written, len(behind), behind + made + behind)
        for length in range(1, len(made)):
            self.none(0, made[:length])
            self.none(3, [0, 0, 0] + made[:length])


class Examples(ShowCase):
    def test_call(self):
        given = [0x10, 1, 0, 0, 0, 2]
        self.assertEqual(show(0, given), [6] + list(b"call 1 2"))
        self.assertEqual(show(1, given), [0])


class Instructions(ShowCase):
    def test_without_operands(self):
        for number, name in enumerate(NAMES):
            if name not in LAYOUTS:
                self.assertEqual(show(0, [number]), [1] + list(name.encode()))
                self.whole(name)

    def test_one_byte(self):
        for name in ("load", "store", "loadl", "storel"):
            for operand in (0, 1, 9, 10, 99, 100, 127, 128, 254, 255):
                self.assertEqual(show(0, [NAMES.index(name), operand]), [2] + list(f"{name} {operand}".encode()))
                self.whole(f"{name} {operand}")

    def test_four_bytes(self):
        for name in ("jmp", "jz", "line"):
            for operand in (0, 1, 9, 10, 255, 256, 65535, 65536, 16777215, 16777216, 2 ** 31, 2 ** 32 - 1, 0x12345678):
                self.whole(f"{name} {operand}")
            self.assertEqual(show(0, [NAMES.index(name), 4, 3, 2, 1]), [5] + list(f"{name} 16909060".encode()))

    def test_call(self):
        for place in (0, 1, 9, 10, 255, 256, 65536, 2 ** 31, 2 ** 32 - 1):
            for count in (0, 1, 9, 10, 128, 255):
                self.whole(f"call {place} {count}")

    def test_push(self):
        edges = (2 ** 32, -2 ** 32, MOST, MOST - 1, LEAST, LEAST + 1)
        for number in (0, 1, -1, 9, 10, -9, -10, 255, 256, -255, -256) + edges:
            self.whole(f"push {number}")
        self.assertEqual(show(0, [1] + [255] * 8), [9] + list(b"push -1"))
        self.assertEqual(show(0, [1] + [0] * 8), [9] + list(b"push 0"))
        self.assertEqual(show(0, [1] + [0] * 7 + [128]), [9] + list(b"push -9223372036854775808"))
        self.assertEqual(show(0, [1] + [255] * 7 + [127]), [9] + list(b"push 9223372036854775807"))
        self.assertEqual(show(0, [1, 1, 2, 3, 4, 5, 6, 7, 8]), [9] + list(b"push 578437695752307201"))

    def test_only_push_is_below_0(self):
        self.shows("jmp 4294967295", 0, [14] + [255] * 4)
        self.shows("load 255", 0, [2, 255])
        self.shows("line 2147483648", 0, [20, 0, 0, 0, 128])


class NoInstruction(ShowCase):
    def test_bytes_above_20(self):
        for byte in range(21, 256):
            self.none(0, [byte])
            self.none(0, [byte] + [0] * 20)
            self.none(2, [0, 0, byte] + [0] * 20)

    def test_behind_the_end(self):
        for given in ([], [0], code("push 1"), [0] * 20000):
            for more in (0, 1, 2, 8, 9, 1000, 2 ** 31):
                self.none(len(given) + more, given)
            self.none(4294967295, given)

    def test_cut_off(self):
        for name, size in SIZES.items():
            number = NAMES.index(name)
            for length in range(1, size):
                self.none(0, [number] + [0] * (length - 1))
                self.none(19990, [0] * 19990 + [number] + [0] * (length - 1))
            self.assertEqual(show(0, [number] + [0] * (size - 1))[0], size)


class Within(ShowCase):
    def test_operands_are_instructions_too(self):
        given = [14, 18, 2, 7, 20, 3, 0, 0, 0]
        words = ["jmp 336003602", "put", "load 7", "sub", "line 3", "store 0", "halt", "halt", "halt"]
        for at, written in enumerate(words):
            self.shows(written, at, given)

    def test_a_long_code(self):
        given = [byte for number in range(2200) for byte in code(f"push {number}")]
        for number in range(2200):
            self.shows(f"push {number}", 9 * number, given)


if __name__ == "__main__":
    unittest.main()
