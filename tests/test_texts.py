"""Texts that are no house's: each call that reads one answers -1."""

import itertools
import unittest

from rooftold import desk
from tests.houses import (HOUSES, block, every_call, house_bytes, is_house, stairs, text_of, text_of_walks,
                          walks_of)

SHAPES = {
    "empty text": "",
    "line feed alone": "\n",
    "no line feed": "0,0 1,0 1,1 0,1",
    "second line without its line feed": "0,0 3,0 3,3 0,3\n1,1 1,2 2,2 2,1",
    "a letter": "0,0 1,0 1,a 0,1\n",
    "a semicolon for a comma": "0;0 1;0 1;1 0;1\n",
    "a tab for a blank": "0,0\t1,0\t1,1\t0,1\n",
    "carriage return": "0,0 1,0 1,1 0,1\r\n",
    "the byte behind the digits": "0,0 :,0 :,1 0,1\n",
    "the byte ahead of the digits": "0,0 1/,0 1/,1 0,1\n",
    "a sign": "+0,0 1,0 1,1 0,1\n",
    "a minus": "-1,0 1,0 1,1 -1,1\n",
    "a 0 in front": "0,0 01,0 01,1 0,1\n",
    "two noughts": "00,0 1,0 1,1 00,1\n",
    "three digits": "0,0 001,0 001,1 0,1\n",
    "65": "0,0 65,0 65,1 0,1\n",
    "65 northward": "0,63 1,63 1,65 0,65\n",
    "99": "0,0 99,0 99,1 0,1\n",
    "100": "0,0 100,0 100,1 0,1\n",
    "640": "0,0 640,0 640,1 0,1\n",
    "a number past 32 bits": "0,0 4294967297,0 4294967297,1 0,1\n",
    "no number": "0,0 1,0 1,1 ,1\n",
    "no second number": "0,0 1,0 1,1 0,\n",
    "one number": "0,0 1,0 1,1 0\n",
    "three numbers": "0,0 1,0 1,1 0,1,0\n",
    "comma alone": ",\n",
    "three corners": "0,0 1,0 1,1\n",
    "two corners": "0,0 1,0\n",
    "one corner": "0,0\n",
    "three corners behind a right line": "0,0 4,0 4,4 0,4\n1,1 1,2 2,2\n",
    "a blank at a line's end": "0,0 1,0 1,1 0,1 \n",
    "a blank at a line's beginning": " 0,0 1,0 1,1 0,1\n",
    "two blanks": "0,0  1,0 1,1 0,1\n",
    "a blank behind a comma": "0, 0 1,0 1,1 0,1\n",
    "an empty line at the end": "0,0 1,0 1,1 0,1\n\n",
    "an empty line at the beginning": "\n0,0 1,0 1,1 0,1\n",
    "an empty line between": "0,0 3,0 3,3 0,3\n\n1,1 1,2 2,2 2,1\n",
    "a blank behind the last line feed": "0,0 1,0 1,1 0,1\n ",
    "a nought byte": "0,0 1,0 1,1 0,1\n\0",
}

WALKS = {
    "a step aslant": "0,0 2,0 2,2 1,1\n",
    "aslant all round": "1,0 2,1 1,2 0,1\n",
    "aslant from the last to the first": "0,0 2,0 2,2 1,2\n",
    "straight on": "0,0 1,0 2,0 2,1 0,1\n",
    "straight on at the end": "0,0 2,0 2,2 0,2 0,1\n",
    "straight on at the beginning": "1,0 2,0 2,1 0,1 0,0\n",
    "back": "0,0 3,0 2,0 2,1 0,1\n",
    "back at the end": "0,0 1,0 1,1 0,1 0,2\n",
    "there and back": "0,0 1,0 0,0 1,0\n",
    "a corner twice running": "0,0 1,0 1,0 1,1 0,1\n",
    "the first corner again at the end": "0,0 1,0 1,1 0,1 0,0\n",
    "one point four times": "0,0 0,0 0,0 0,0\n",
    "from the second corner": "1,0 1,1 0,1 0,0\n",
    "from the third corner": "1,1 0,1 0,0 1,0\n",
    "from the last corner": "0,1 0,0 1,0 1,1\n",
    "from the least x, not the least y": "0,2 2,2 2,0 3,0 3,3 0,3\n",
    "from the least y, not the least x": "3,0 4,0 4,2 0,2 0,0 1,0 1,1 3,1\n",
    "a court from its second corner": "0,0 3,0 3,3 0,3\n1,2 2,2 2,1 1,1\n",
    "the wrong way round": "0,0 0,1 1,1 1,0\n",
    "a court the wrong way round": "0,0 3,0 3,3 0,3\n1,1 2,1 2,2 1,2\n",
    "both the wrong way round": "0,0 0,3 3,3 3,0\n1,1 2,1 2,2 1,2\n",
    "the court first": "1,1 1,2 2,2 2,1\n0,0 3,0 3,3 0,3\n",
    "courts by x, not by y": "0,0 9,0 9,5 0,5\n2,2 2,3 4,3 4,2\n6,1 6,4 8,4 8,1\n",
    "courts of one y not by x": "0,0 7,0 7,3 0,3\n3,1 3,2 4,2 4,1\n1,1 1,2 2,2 2,1\n5,1 5,2 6,2 6,1\n",
    "a walk through itself": "0,0 2,0 2,2 1,2 1,1 3,1 3,3 0,3\n",
    "a walk that crosses itself": "0,0 3,0 3,1 1,1 1,2 2,2 2,0 0,0\n",
    "a walk that touches itself in a point": "0,0 1,0 1,1 2,1 2,2 1,2 1,1 0,1\n",
    "a court that touches the outer walk in a point": "0,0 3,0 3,1 4,1 4,3 0,3\n2,1 2,2 3,2 3,1\n",
    "a court that has a wall in common": "0,0 3,0 3,3 0,3\n0,1 0,2 1,2 1,1\n",
    "two courts that touch in a point": "0,0 4,0 4,4 0,4\n1,1 1,2 2,2 2,1\n2,2 2,3 3,3 3,2\n",
    "two courts in one walk": "0,0 4,0 4,4 0,4\n1,1 1,2 2,2 2,3 3,3 3,2 2,2 2,1\n",
    "two courts side by side": "0,0 4,0 4,3 0,3\n1,1 1,2 2,2 2,1\n2,1 2,2 3,2 3,1\n",
    "a court beyond the outer walk": "0,0 3,0 3,3 0,3\n5,1 5,2 6,2 6,1\n",
    "a court across the outer walk": "0,0 3,0 3,3 0,3\n2,1 2,2 4,2 4,1\n",
    "two parts": "0,0 1,0 1,1 0,1\n2,0 3,0 3,1 2,1\n",
    "two parts far away": "0,0 1,0 1,1 0,1\n63,63 64,63 64,64 63,64\n",
    "two parts, one in the other's court": "0,0 5,0 5,5 0,5\n1,1 1,4 4,4 4,1\n2,2 3,2 3,3 2,3\n",
    "two parts beside each other": "0,0 1,0 1,1 0,1\n1,0 2,0 2,1 1,1\n",
    "cells that meet in a point alone": "0,0 1,0 1,1 0,1\n1,1 2,1 2,2 1,2\n",
    "cells that meet in a point alone, the other way": "1,0 2,0 2,1 1,1\n0,1 1,1 1,2 0,2\n",
    "a ring that meets itself in a point": "0,0 3,0 3,2 2,2 2,3 0,3\n1,1 1,2 2,2 2,1\n",
    "a court alone": "1,1 1,2 2,2 2,1\n",
    "two courts alone": "1,1 1,2 2,2 2,1\n4,1 4,2 5,2 5,1\n",
    "one walk twice": "0,0 1,0 1,1 0,1\n0,0 1,0 1,1 0,1\n",
    "one walk three times": "0,0 1,0 1,1 0,1\n0,0 1,0 1,1 0,1\n0,0 1,0 1,1 0,1\n",
    "one walk twice in one line": "0,0 1,0 1,1 0,1 0,0 1,0 1,1 0,1\n",
    "a court twice": "0,0 3,0 3,3 0,3\n1,1 1,2 2,2 2,1\n1,1 1,2 2,2 2,1\n",
    "a court three times": "0,0 3,0 3,3 0,3\n1,1 1,2 2,2 2,1\n1,1 1,2 2,2 2,1\n1,1 1,2 2,2 2,1\n",
    "257 cells": "0,0 17,0 17,1 16,1 16,16 0,16\n",
    "257 cells in four rows": "0,30 64,30 64,34 1,34 1,35 0,35\n",
    "4096 cells": "0,0 64,0 64,64 0,64\n",
    "a thin walk that holds nothing": "0,0 5,0 5,0 0,0\n",
}


class NoHouse(unittest.TestCase):
    def refused(self, text, told):
        for answer in every_call(desk, text):
            self.assertEqual(answer, [-1], told)
        self.assertEqual(desk.size(text, []), [-1], told)

    def test_wrong_shapes(self):
        for told, text in SHAPES.items():
            with self.subTest(told):
                self.refused(list(text.encode()), told)

    def test_wrong_walks(self):
        for told, text in WALKS.items():
            with self.subTest(told):
                self.refused(list(text.encode()), told)

    def test_what_lies_just_this_side(self):
        for text in ("0,0 64,0 64,1 0,1\n", "0,0 10,0 10,1 0,1\n", "0,60 4,60 4,64 0,64\n",
                     "0,0 16,0 16,16 0,16\n", "0,30 64,30 64,34 0,34\n", "0,0 9,0 9,9 0,9\n"):
            with self.subTest(text):
                self.assertEqual(desk.faces(list(text.encode()))[0], 4)

    def test_256_cells_and_257(self):
        cells = block(20, 20, 15, 17)
        self.assertEqual(desk.faces(text_of(cells | {(35, 20)}))[0], 6)
        self.refused(text_of(cells | {(35, 20), (35, 21)}), "257")
        self.refused(text_of(block(0, 0, 17, 16) - {(3, 3)}), "271, with a court")
        self.assertEqual(desk.faces(text_of(block(0, 0, 17, 16) - block(3, 3, 4, 4)))[0], 8)

    def test_sets_of_cells_that_are_no_house(self):
        small = [(x, y) for y in range(3) for x in range(3)]
        for chosen in itertools.product((False, True), repeat=9):
            cells = {cell for cell, is_in in zip(small, chosen) if is_in}
            if is_house(cells):
                self.assertNotEqual(desk.faces(text_of(cells)), [-1])
            else:
                for tightly in (False, True):
                    self.refused(text_of_walks(walks_of(cells, tightly)), cells)

    def test_walks_in_any_other_order_or_from_any_other_corner(self):
        for name in ("L", "U", "court", "courts", "courts in a row"):
            lines = [line.split(" ") for line in HOUSES[name][0].splitlines()]
            for number, line in enumerate(lines):
                for n in range(len(line)):
                    for turned in (line[n:] + line[:n], (line[n:] + line[:n])[::-1]):
                        if turned != line:
                            self.refused_lines(lines[:number] + [turned] + lines[number + 1:], name)
            for order in itertools.permutations(lines):
                if list(order) != lines:
                    self.refused_lines(order, name)

    def refused_lines(self, lines, told):
        self.refused(list("".join(" ".join(line) + "\n" for line in lines).encode()), told)

    def test_every_byte_changed_left_out_or_put_in(self):
        # Each number of a house's text is told again by a corner beside it, so no one byte's change makes a house's.
        for name in ("one cell", "last cell", "L", "court", "north-west corner"):
            text = house_bytes(name)
            for p in range(len(text) + 1):
                for value in (0, 9, 10, 13, 32, 43, 44, 45, 46, 47, *range(48, 58), 58, 97, 128, 255):
                    self.assertEqual(desk.faces(text[:p] + [value] + text[p:]), [-1], (name, p, value))
                    if p < len(text) and text[p] != value:
                        self.assertEqual(desk.faces(text[:p] + [value] + text[p + 1:]), [-1], (name, p, value))
                if p < len(text):
                    self.assertEqual(desk.faces(text[:p] + text[p + 1:]), [-1], (name, p))

    def test_every_byte_in_one_place(self):
        text = house_bytes("one cell")
        for value in range(256):
            self.assertEqual(desk.faces([value] + text[1:]) == [-1], value != text[0], value)


def long_line(corners):
    """One line of 4,096 bytes: the corners over and over, then three that fill it up."""
    text = b""
    for corner in itertools.cycle(corners):
        rest = 4096 - len(text)
        if rest <= 18:
            break
        text += corner + b" "
    for part in range(3):
        text += {4: b"0,0 ", 5: b"0,10 ", 6: b"10,10 "}[(rest + part) // 3]
    return list(text[:-1] + b"\n")


class LongTexts(unittest.TestCase):
    def refused(self, text):
        self.assertEqual(len(text), 4096)
        for answer in every_call(desk, text):
            self.assertEqual(answer, [-1])
        self.assertEqual(desk.face(127, 127, 3, text), [-1])

    def test_one_byte_over_and_over(self):
        for value in (0, 10, 32, 44, 48, 49, 255):
            self.refused([value] * 4096)

    def test_right_shapes_that_are_no_house(self):
        for corners in ("0,0", "0,0 0,64", "0,0 64,0 64,64 0,64", "0,0 64,64", "9,9 10,9 10,10 9,10"):
            self.refused(long_line(corners.encode().split(b" ")))

    def test_one_walk_over_and_over(self):
        line = b"0,0 1,0 1,1 0,1\n"
        self.assertEqual(4096 % len(line), 0)
        self.refused(list(line * 256))
        self.refused(list(b"0,0 64,0 64,64 0,64\n" * 204 + b"0,0 1,0 1,1 0,1\n"))

    def test_a_right_text_with_more_behind_it(self):
        for value in (10, 32, 48):
            text = house_bytes("courts")
            self.refused(text + [value] * (4096 - len(text)))

    def test_the_longest_right_texts_get_their_answer(self):
        # A wall's every foot a corner of two digits each is about 3,000 bytes: no right text has 4,096.
        text = text_of(stairs())
        self.assertGreater(len(text), 2800)
        self.assertEqual(sum(desk.faces(text)[2::6]), 16 * len(stairs()))
        self.assertGreater(desk.lines(text)[0], 500)
        self.assertEqual(desk.face(0, 0, 0, text), [0])
        self.refused(text[:-1] + [32] * (4096 - len(text)) + [10])


if __name__ == "__main__":
    unittest.main()
