import random
import unittest

from partsmet.errors import InvalidText
from partsmet.readers import read
from partsmet.texts import is_of_sort, written
from tests.forms import forms
from tests.samples import ODD_VALUES, check_call, check_refused, same

SIGNS = "\n 0129abz,;:<>-()[]{}wlhi~A_"
# Texts and their wrong lines.
WRONG_LINES = [
    ("", 1),
    ("\n", 1),
    ("kind", 1),
    ("kind ", 1),
    ("kind\n", 1),
    ("kind count", 1),
    ("kind count ", 1),
    ("kind count \n", 1),
    (" kind count\n", 1),
    ("kind  count\n", 1),
    ("Kind count\n", 1),
    ("kinds count\n", 1),
    ("kind count\n\n", 2),
    ("kind count\n ", 2),
    ("kind count\nx", 2),
    ("kind count\nkind count\n", 2),
    ("kind count\n\n\n", 2),
    ("\nkind count\n", 1),
    ("claim count\n", 1),
    ("count\n", 1),
    ("is 5\n", 1),
    ("entry 5\n", 1),
    ("kind count count\n", 1),
    ("kind count 1\n", 1),
    ("kind row\n", 1),
    ("kind row 0\n", 1),
    ("kind row 21\n", 1),
    ("kind row 03\n", 1),
    ("kind row +3\n", 1),
    ("kind row -3\n", 1),
    ("kind row 3 \n", 1),
    ("kind row 1_0\n", 1),
    ("kind row x\n", 1),
    ("kind row 3 4\n", 1),
    ("kind row row\n", 1),
    ("kind tops\n", 1),
    ("kind tops 3\n", 1),
    ("kind tops 3 \n", 1),
    ("kind tops 7 -\n", 1),
    ("kind tops 03 -\n", 1),
    ("kind tops 3 1<2,0<1\n", 1),
    ("kind tops 3 0<1,0<1\n", 1),
    ("kind tops 3 0<1,1<0\n", 1),
    ("kind tops 3 0<1,\n", 1),
    ("kind tops 3 ,0<1\n", 1),
    ("kind tops 3 -,0<1\n", 1),
    ("kind tops 3 0<3\n", 1),
    ("kind tops 3 0<1<2\n", 1),
    ("kind tops 3 0\n", 1),
    ("kind tops 3 0>1\n", 1),
    ("kind tops 3 0 < 1\n", 1),
    ("kind tops 3 0<01\n", 1),
    ("kind tops 3 <\n", 1),
    ("kind table\n", 1),
    ("kind table \n", 1),
    ("kind table -\n", 1),
    ("kind table 0;0\n", 1),
    ("kind table 0,1;1,0\n", 1),
    ("kind table 0,1,1,1\n", 1),
    ("kind table 0,1;1,1;\n", 1),
    ("kind table 0,1;1,01\n", 1),
    ("kind table 0, 1;1,1\n", 1),
    ("kind map\n", 1),
    ("kind map map map map count\n", 1),
    ("kind " + "map " * 780 + "count\n", 1),
    ("kind " + "pair " * 780 + "count\n", 1),
    ("kind pair count\n", 1),
    ("kind pair count count count\n", 1),
    ("kind pair pair pair row 1 row 1 pair row 1 row 1 pair pair row 1 row 1 pair row 1 row 1\n", 1),
    ("state\n", 1),
    ("state count", 1),
    ("state count\n", 2),
    ("state count\n\n", 2),
    ("state count\nis", 2),
    ("state count\nis\n", 2),
    ("state count\nis \n", 2),
    ("state count\nis 5", 2),
    ("state count\nis 05\n", 2),
    ("state count\nis -5\n", 2),
    ("state count\nis 5 \n", 2),
    ("state count\nis  5\n", 2),
    ("state count\n is 5\n", 2),
    ("state count\nIs 5\n", 2),
    ("state count\nentry 5\n", 2),
    ("state count\n5\n", 2),
    ("state count\nis 5\nis 5\n", 3),
    ("state count\nis 5\n5\n", 3),
    ("state count\nis 5\n 5\n", 3),
    ("state count\nis 5\n\n", 3),
    ("state count\nis 5\nx", 3),
    ("state cnt\nis 5", 1),
    ("state row 3\nis 3\n", 2),
    ("state map count\nis {a:0}\n", 2),
    ("state map count\nis {b:1,a:1}\n", 2),
    ("state map count\nis {a:1,a:2}\n", 2),
    ("state map count\nis {a:1,}\n", 2),
    ("state map count\nis {,a:1}\n", 2),
    ("state map count\nis {a:1\n", 2),
    ("state map count\nis a:1}\n", 2),
    ("state map count\nis {a:1]\n", 2),
    ("state map count\nis {a1}\n", 2),
    ("state map count\nis {a:}\n", 2),
    ("state map count\nis {:1}\n", 2),
    ("state map count\nis {a: 1}\n", 2),
    ("state map count\nis { a:1}\n", 2),
    ("state map count\nis {A:1}\n", 2),
    ("state map count\nis {abcdefghi:1}\n", 2),
    ("state map count\nis {a:1}}\n", 2),
    ("state map count\nis {{a:1}}\n", 2),
    ("state map count\nis []\n", 2),
    ("state map count\nis ()\n", 2),
    ("state map count\nis {\n", 2),
    ("state map count\nis }\n", 2),
    ("state map count\nis }{\n", 2),
    ("state map count\nis {-}\n", 2),
    ("state map count\nis -\n", 2),
    ("state tops 3 0<1\nis [0,1]\n", 2),
    ("state tops 3 0<1\nis [2,0]\n", 2),
    ("state tops 3 0<1\nis [0,0]\n", 2),
    ("state tops 3 0<1\nis [3]\n", 2),
    ("state tops 3 0<1\nis [00]\n", 2),
    ("state tops 3 0<1\nis {}\n", 2),
    ("state tops 3 0<1\nis []]\n", 2),
    ("state tops 3 0<1\nis 0\n", 2),
    ("state pair count count\nis (1)\n", 2),
    ("state pair count count\nis (1,2,3)\n", 2),
    ("state pair count count\nis (1,2\n", 2),
    ("state pair count count\nis 1,2\n", 2),
    ("state pair count count\nis [1,2]\n", 2),
    ("state pair count count\nis (1,2))\n", 2),
    ("state pair count count\nis ((1,2))\n", 2),
    ("state pair count count\nis (1;2)\n", 2),
    ("state above count count\nis low(1\n", 2),
    ("state above count count\nis low1)\n", 2),
    ("state above count count\nis low()\n", 2),
    ("state above count count\nis mid(1)\n", 2),
    ("state above count count\nis (1)\n", 2),
    ("state above count count\nis Low(1)\n", 2),
    ("state above count count\nis low(1))\n", 2),
    ("state above count count\nis low((1))\n", 2),
    ("state above count row 2\nis high(2)\n", 2),
    ("log\n", 1),
    ("log count", 1),
    ("log count\n\n", 2),
    ("log count\nentry 1", 2),
    ("log count\nentry 1\nentry", 3),
    ("log count\nentry 1\nentry 2", 3),
    ("log count\nentry 1\nentry 02\nentry 3\n", 3),
    ("log count\nentry 1\nis 2\n", 3),
    ("log count\nis 1\n", 2),
    ("log count\nentry 1\n\nentry 2\n", 3),
    ("log count\n" + "entry 0\n" * 41, 42),
    ("log count\n" + "entry 0\n" * 40 + "x", 42),
    ("log count\n" + "entry 0\n" * 40 + "\n", 42),
    ("log count\n" + "entry 0\n" * 60, 42),
    ("log count\n" + "entry 0\n" * 39 + "entry 0", 41),
    ("log row 2\n" + "entry 1\n" * 20 + "entry 2\n" + "entry 1\n" * 30, 22),
    ("view count\n", 2),
    ("view count\nis\n", 2),
    ("view count\nis at a\n", 2),
    ("view map count\nis at\n", 2),
    ("view map count\nis at \n", 2),
    ("view map count\nis at A\n", 2),
    ("view map count\nis at a b\n", 2),
    ("view map count\nis at -\n", 2),
    ("view map count\nis some\n", 2),
    ("view map count\nis some \n", 2),
    ("view map count\nis some a,a\n", 2),
    ("view map count\nis some a,\n", 2),
    ("view map count\nis some a b\n", 2),
    ("view map count\nis some -,a\n", 2),
    ("view map count\nis some a,b,c,d,e,f,g\n", 2),
    ("view map count\nis renamed a\n", 2),
    ("view map count\nis renamed a>b>c\n", 2),
    ("view map count\nis renamed a<b\n", 2),
    ("view map count\nis renamed a>b,a>c\n", 2),
    ("view map count\nis renamed >b\n", 2),
    ("view map count\nis renamed a>\n", 2),
    ("view map count\nis renamed\n", 2),
    ("view map count\nis joined joined\n", 2),
    ("view map count\nis both joined\n", 2),
    ("view map count\nis then joined\n", 2),
    ("view map count\nis then joined at a\n", 2),
    ("view map count\nis values\n", 2),
    ("view map count\nis values at a\n", 2),
    ("view map count\nis values same same\n", 2),
    ("view map count\nis nothing\n", 2),
    ("view map count\nsees same\n", 2),
    ("view map count\nis same\nis same\n", 3),
    ("view later count count\nis second\n", 2),
    ("view count\nis then then then then then same same same same same same\n", 2),
    ("view count\nis " + "then " * 780 + "same\n", 2),
    ("view count\nis " + "both " * 780 + "same\n", 2),
    ("view map map map count\nis both same values same\n", 2),
    ("question count\n", 2),
    ("question count\nsees same", 2),
    ("question count\nsees same\n", 3),
    ("question count\nsees same\nasks", 3),
    ("question count\nsees same\nasks 1", 3),
    ("question count\nsees same\nasks -1\n", 3),
    ("question count\nsees at a\nasks -1\n", 2),
    ("question count\nis same\nasks 1\n", 2),
    ("question count\nsees same\nis 1\n", 3),
    ("question count\nasks 1\nsees same\n", 2),
    ("question map count\nsees at a\nasks {a:1}\n", 3),
    ("question map count\nsees at a\nasks 1\nasks 1\n", 4),
    ("question map count\nsees at a\nasks 1\n1\n", 4),
    ("question map cnt\nsees at a\nasks 1\n", 1),
    ("web\n", 1),
    ("web 1\n", 1),
    ("web 1 \n", 1),
    ("web 0 -\n", 1),
    ("web 7 -\n", 1),
    ("web 01 -\n", 1),
    ("web 3 1<2,0<1\n", 1),
    ("web 3 1<0\n", 1),
    ("web 3 0<0\n", 1),
    ("web 3 0<3\n", 1),
    ("web 3 0<1,0<1\n", 1),
    ("web 3 0<1 1<2\n", 1),
    ("web 3 -,0<1\n", 1),
    ("web 3  -\n", 1),
    ("web - -\n", 1),
    ("web 3 -\n\n", 2),
    ("web 3 -\n-\n", 2),
]


def wrong_line(text):
    """The wrong line that the program tells; 0 if it reads the text."""
    try:
        read(text)
    except InvalidText as error:
        return error.position
    return 0


class Read(unittest.TestCase):
    def test_forms(self):
        for sort, value, text in forms():
            check_call(self, (sort, value), read, text=text)
            self.assertEqual(written(sort, value), text)

    def test_edges(self):
        check_call(self, ("log", (("count",), [])), read, text="log count\n")
        check_call(self, ("log", (("count",), [7] * 40)), read, text="log count\n" + "entry 7\n" * 40)
        check_call(self, ("state", (("row", 1), 0)), read, text="state row 1\nis 0\n")
        check_call(self, ("kind", ("tops", 0, [])), read, text="kind tops 0 -\n")
        check_call(self, ("web", (1, [])), read, text="web 1 -\n")
        check_call(self, ("view", (("map", ("count",)), ("renamed", []))), read, text="view map count\nis renamed -\n")

    def test_nested_views(self):
        """Five deep, not six; twelve in all, not thirteen."""
        three = "then same same"
        seven = f"then {three} {three}"
        for view, line in [
            (f"then {seven} {three}", 0),
            (f"then {seven} then same values same", 0),
            (f"then {seven} then {three} same", 2),
            (f"then then then {three} same same same", 0),
            (f"then then then then {three} same same same same", 2),
            ("values values values values same", 2),
            ("then then then then values same same same same same", 2),
            ("then then then values same same same same", 0),
        ]:
            self.assertEqual(wrong_line(f"view map count\nis {view}\n"), line, view)


class WrongLines(unittest.TestCase):
    def test_told(self):
        for text, line in WRONG_LINES:
            check_refused(self, InvalidText, {"position": line}, read, text)
            check_refused(self, InvalidText, {"position": line}, read, text=text)

    def test_no_strings(self):
        for value in [value for value in ODD_VALUES if not isinstance(value, str)] + [b"kind count\n", ["kind count\n"],
                                                                                      ("kind", ("count",)), 0, 1, True]:
            check_refused(self, InvalidText, {"position": 0}, read, value)
            check_refused(self, InvalidText, {"position": 0}, read, text=value)
        for value in [value for value in ODD_VALUES if isinstance(value, str)]:
            check_refused(self, InvalidText, {"position": 1}, read, value)

    def test_lines_left_out(self):
        """What lacks is wrong behind the last line, or where the next one stands instead."""
        for sort, value, text in forms():
            lines = text.splitlines(keepends=True)
            self.check_line(text[:-1], len(lines))
            for many in range(len(lines)):
                if sort != "log" or many == 0:
                    self.assertEqual(wrong_line("".join(lines[:many])), many + 1)
                self.check_line("".join(lines[:many] + ["x\n"] + lines[many:]), many + 1)
                self.check_line("".join(lines[:many] + ["\n"] + lines[many:]), many + 1)
            self.check_line(text + "x", len(lines) + 1)
            if sort != "log":
                self.check_line(text + lines[-1], len(lines) + 1)
            self.check_line(text + text, len(lines) + 1)

    def test_signs_otherwise(self):
        mixed = random.Random(93)
        right = 0
        for _, _, text in forms():
            for _ in range(150):
                at = mixed.randrange(len(text))
                sign = mixed.choice(SIGNS)
                other = mixed.choice([text[:at] + text[at + 1:], text[:at] + sign + text[at + 1:],
                                      text[:at] + sign + text[at:]])
                right += self.check_other(other, text.count("\n", 0, at) + 1)
        self.assertGreater(right, 50)

    def check_other(self, text, line):
        """A text in which one sign on the line is otherwise: either it is a right one, or wrong from there on."""
        found = wrong_line(text)
        if found == 0:
            sort, value = read(text)
            self.assertTrue(is_of_sort(sort, value))
            self.assertEqual(written(sort, value), text)
            return True
        self.assertGreaterEqual(found, line)
        self.check_line(text, found)
        return False

    def check_line(self, text, line):
        """The line is wrong: what stands ahead of it is no reason, what stands on it is."""
        self.assertEqual(wrong_line(text), line, text)
        lines = text.split("\n")
        ahead = "".join(each + "\n" for each in lines[:line - 1])
        self.assertIn(wrong_line(ahead), (0, line), text)
        if line < len(lines):
            self.assertEqual(wrong_line(ahead + lines[line - 1] + "\n"), line, text)

    def test_two_joined(self):
        told = forms()
        for _, _, one in told[::6]:
            for _, _, other in told[::5]:
                self.check_line(one + other, one.count("\n") + 1)

    def test_equal_each_time(self):
        for _, _, text in forms():
            self.assertTrue(same(read(text), read(text)))


if __name__ == "__main__":
    unittest.main()
