"""Texts that are taken, and the byte that is told of those that aren't.

In the texts at fault a sign ^ stands right before the byte that is told.
"""

import unittest

from helper import PRINT, bytes_of, take, told

PINS = "pin A 0 0\npin B 9 0\n"
CRANK = PINS + "crank C A 3\n"
DYAD = CRANK + "dyad D C 8 B 7\n"
TWELVE = DYAD + """rider E1 A C 1 0
rider E2 A C 2 0
rider F1 C D 1/2 1
rider F2 C D 1/2 2
rider F3 B D 1/2 3
rider F4 B D 1/2 4
rider G A B 1 1
rider H B A 1 1
"""
ELEVEN_PINS = "pin A 0 0\ncrank B A 5\n" + "".join("pin %s %d 9\n" % (name, x) for x, name in enumerate("CDEFGHIJKL"))
GROUND_RIDERS = "pin A 0 0\npin B 9 9\nrider C A B 1 1\nrider D A B 2 1\nrider E A B 1/2 0\ncrank F E 5\n"


class Take(unittest.TestCase):
    def at_fault(self, marked):
        place = marked.index("^")
        text = marked.replace("^", "", 1)
        self.assertEqual(told(take(text)), [[-6, 1, place]], repr(marked))

    def all_at_fault(self, *texts):
        for marked in texts:
            self.at_fault(marked)

    def taken(self, *texts):
        for text in texts:
            self.assertEqual(told(take(text)), [[text.count("\n")]], repr(text))


class Taken(Take):
    def test_each_line(self):
        self.taken("pin A 0 0\ncrank B A 1\n", DYAD, DYAD + "rider E C D 1/2 -1/3\n", TWELVE)
        self.assertEqual(TWELVE.count("\n"), 12)

    def test_edges_of_names(self):
        self.taken("pin Z99 0 0\npin Z9 1 0\npin Z 2 0\npin A10 3 0\ncrank A1 Z99 1\n")

    def test_edges_of_numbers(self):
        self.taken(
            "pin A -999 999\npin B 999 -999\ncrank C A 999\ndyad D A 1 B 999\ndyad E C 999 D 1\n",
            CRANK + "rider D A C -999 999\nrider E A C 0 -1\n",
            CRANK + "rider D A C 1/2 -1/20\nrider E A C -999/20 999/20\n",
            CRANK + "rider D A C 2/15 20/19\nrider E A C 998/3 10/9\n",
        )

    def test_order_of_lines_is_free(self):
        self.taken(
            PINS + "dyad D A 8 B 7\ncrank C A 3\n",
            "pin A 0 0\ncrank C A 3\npin B 9 0\nrider E A B 1 2\n",
            PINS + "dyad D A 8 B 7\nrider E D A 1 2\ndyad F E 1 D 2\ncrank C A 3\n",
        )

    def test_crank_about_a_rider_of_the_ground(self):
        self.taken(PINS + "rider R A B 1/2 1\ncrank C R 3\n", PINS + "rider R A B 1/2 1\ncrank C R 3\nrider S C R 1 1\n")

    def test_rider_on_a_pin(self):
        self.taken(CRANK + "rider R A B 1 0\nrider S B A 1 0\nrider T A C 0 0\n")

    def test_pin_on_a_rider(self):
        self.taken(PINS + "rider R A B 2 0\npin E 18 0\ncrank C A 3\n")

    def test_pins_at_places_alike(self):
        self.taken("pin A 1 2\npin B 2 1\npin C -1 2\npin D 1 -2\ncrank E A 1\n")


class Form(Take):
    def test_first_word(self):
        self.all_at_fault(
            "^", "^x", "^\n", "^ pin A 0 0\n", "^Pin A 0 0\n", "p^", "p^n", "pi^", "pi^m A 0 0\n", "pin^", "pin^s",
            "pin^\n", "c^", "cr^i", "cran^", "dya^b", "d^rider", "ride^", "ride^\n", "rider^\x00", "^\xff",
        )

    def test_blanks(self):
        self.all_at_fault(
            "pin^A 0 0\n", "pin^\tA 0 0\n", "pin ^ A 0 0\n", "pin A^", "pin A^\n", "pin A^-", "pin A ^ 0 0\n",
            "pin A 0^", "pin A 0^\n", "pin A 0 ^", "pin A 0 ^\n", "pin A 0 ^ 0\n",
        )

    def test_line_ends(self):
        self.all_at_fault(
            "pin A 0 0^", "pin A 0 0^ \n", "pin A 0 0^\r\n", "pin A 0 0^ 0\n", "pin A 0 0\n^\n", "pin A 0 0\n^ ",
            PINS + "crank C A 3^", CRANK + "^\n", CRANK + "^x", CRANK + "^\x00", CRANK + "dyad D C 8 B 7^",
            CRANK + "rider R A C 1 1^", CRANK + "rider R A C 1 1^ 1\n", CRANK + "rider R A C 1^\n",
        )

    def test_ends_within_a_line(self):
        for text in (DYAD, CRANK + "rider E10 A C -1/20 20/3\n"):
            start = len(CRANK)
            for size in range(start + 1, len(text)):
                self.at_fault(text[:size] + "^")

    def test_names(self):
        self.all_at_fault(
            "pin ^", "pin ^a 0 0\n", "pin ^1 0 0\n", "pin ^@ 0 0\n", "pin ^[ 0 0\n", "pin A^A 0 0\n", "pin A^a 0 0\n",
            "pin A^0 0 0\n", "pin A^01 0 0\n", "pin A10^0 0 0\n", "pin A99^9", "pin A1^B", "pin A1^-1", "pin A^: 0 0\n",
            PINS + "crank C A^0 3\n", PINS + "crank C ^a 3\n", PINS + "crank C ^3\n", CRANK + "dyad D C 8 B^0 7\n",
        )

    def test_numbers(self):
        self.all_at_fault(
            "pin A ^", "pin A ^x", "pin A ^+1 0\n", "pin A ^.5 0\n", "pin A 1^.5 0\n", "pin A 1^/2 0\n", "pin A ^/2 0\n",
            "pin A 0^0 0\n", "pin A 0^1 0\n", "pin A 0^12 0\n", "pin A -^", "pin A -^0 0\n", "pin A -^00 0\n",
            "pin A -^-1 0\n", "pin A -^ 1 0\n", "pin A 100^0 0\n", "pin A -999^9 0\n", "pin A 100^0",
            "pin A 0 -^0\n", "pin A 0 0^7\n", "pin A 0 123^4\n", "pin A 1^: 0\n", "pin A 0 1^-\n",
        )

    def test_reaches(self):
        self.all_at_fault(
            PINS + "crank C A ^x\n", PINS + "crank C A 3^/2\n", PINS + "crank C A 0^3\n", PINS + "crank C A -^0\n",
            PINS + "crank C A 100^0\n", PINS + "crank C A -100^0\n", CRANK + "dyad D C 0^8 B 7\n",
            CRANK + "dyad D C 8 B 7^/2\n", CRANK + "dyad D C 8 B 700^0\n",
        )

    def test_fractions(self):
        for before, behind in ((CRANK + "rider R A C ", " 1\n"), (CRANK + "rider R A C 1/2 ", "\n")):
            for marked in (
                "^", "^x", "^/2", "-^", "-^0", "-^/2", "0^0", "0^1/2", "100^0/2", "1/^", "1/^-2", "1/^x",
                "1/^/2", "1/0^2", "1/0^0", "1/200^0", "1/2^/3", "1/2^.", "1^.5", "1/^ 2", "3/20^-", "1^-2",
            ):
                self.at_fault(before + marked + ("" if marked.endswith("^") else behind))


class OfTheRightForm(Take):
    def test_thirteenth_line(self):
        self.all_at_fault(
            TWELVE + "^pin Z 7 7\n", TWELVE + "^pin", TWELVE + "^pinx", TWELVE + "^rider", TWELVE + "^dyad\n",
            TWELVE + "^crank A A 0\n", TWELVE + "pi^", TWELVE + "pi^x", TWELVE + "^x", TWELVE + "^\n",
        )

    def test_second_crank(self):
        self.all_at_fault(
            CRANK + "^crank D A 3\n", CRANK + "^crank", CRANK + "^crankx", CRANK + "^crank A A 0\n", CRANK + "cran^",
            CRANK + "cran^x",
        )

    def test_third_dyad(self):
        text = DYAD + "dyad E C 8 B 9\n"
        self.taken(text)
        self.all_at_fault(text + "^dyad F C 8 B 9\n", text + "^dyad", text + "^dyads", text + "dya^", text + "dya^x")

    def test_name_there_already(self):
        self.all_at_fault(
            "pin A 0 0\npin ^A 1 1\n", "pin A 0 0\npin ^A", "pin A 0 0\npin ^A\n", "pin A 0 0\npin ^Ax",
            "pin A1 0 0\npin A 1 1\npin ^A1 x", "pin A12 0 0\npin ^A12", PINS + "crank ^B A 3\n",
            CRANK + "dyad ^C C 8 B 7\n", CRANK + "rider ^A A C 1 1\n",
        )
        self.all_at_fault("pin A 0 0\npin A^0 1 1\n", "pin A12 0 0\npin A12^3 1 1\n", "pin A 0 0\npin A1^")

    def test_name_that_there_isnt(self):
        self.all_at_fault(
            PINS + "crank C ^D 3\n", PINS + "crank C ^D", PINS + "crank C ^Dx", PINS + "crank C ^C 3\n",
            PINS + "crank C ^A1 3\n", CRANK + "dyad D ^E 8 B 7\n", CRANK + "dyad D C 8 ^E 7\n",
            CRANK + "dyad D ^D 8 B 7\n", CRANK + "dyad D C 8 ^D 7\n", CRANK + "rider R ^E C 1 1\n",
            CRANK + "rider R A ^E 1 1\n", CRANK + "rider R ^R C 1 1\n", CRANK + "rider R A ^R\n",
            "crank C ^A 3\n", "pin A10 0 0\ncrank C ^A1 3\n",
        )

    def test_p_again(self):
        self.all_at_fault(
            CRANK + "dyad D C 8 ^C 7\n", CRANK + "dyad D C 8 ^C", CRANK + "dyad D C 8 ^Cx", CRANK + "rider R A ^A 1 1\n",
            CRANK + "rider R C ^C\n",
        )

    def test_no_fixed_point(self):
        text = PINS + "dyad D A 8 B 7\n"
        self.all_at_fault(
            text + "crank C ^D 3\n", text + "crank C ^D", text + "crank C ^D 0\n",
            text + "rider R A D 0 0\ncrank C ^R 3\n", PINS + "rider R A B 1 0\ndyad D A 8 R 7\ncrank C ^D 3\n",
        )

    def test_no_end_of_a_piece_with_p(self):
        rider = DYAD + "rider E A B 1/2 0\nrider F A C 1 1\n"
        self.all_at_fault(
            DYAD + "rider R A ^D 1 1\n", DYAD + "rider R A ^D", DYAD + "rider R C ^B 1 1\n", DYAD + "rider R B ^C x",
            rider + "rider R A ^E 1 1\n", rider + "rider R E ^A 1 1\n", rider + "rider R A ^F 1 1\n",
            rider + "rider R F ^C\n", rider + "rider R E ^F 1 1\n", rider + "rider R E ^B 1 1\n",
            PINS + "rider E A B 1 1\ncrank C E 3\nrider R A ^C 1 1\n",
        )
        self.taken(DYAD + "rider R D B 1 1\nrider S C D 1 1\nrider T C A 1 1\nrider U B A 1 1\n")

    def test_reach_out_of_bounds(self):
        self.all_at_fault(
            PINS + "crank C A ^0\n", PINS + "crank C A ^0", PINS + "crank C A ^0x", PINS + "crank C A ^-1\n",
            PINS + "crank C A ^-999 7", CRANK + "dyad D C ^0 B 7\n", CRANK + "dyad D C ^-8", CRANK + "dyad D C 8 B ^0\n",
            CRANK + "dyad D C 8 B ^-7\n", CRANK + "dyad D C ^0 B 0\n",
        )

    def test_fraction_that_cant_be(self):
        for before, behind in ((CRANK + "rider R A C ", " 1\n"), (CRANK + "rider R A C 1/2 ", "\n")):
            for marked in (
                "^1/0", "^1/1", "^1/21", "^1/100", "^1/999", "^-1/0", "^-1/1", "^-1/21", "^2/4", "^-2/4", "^999/9",
                "^20/20", "^-15/6", "^0/2", "^0/3", "^0/0", "^0/1", "^0/20", "^0/21", "^7/14",
            ):
                self.at_fault(before + marked + behind)
                self.at_fault(before + marked)
                self.at_fault(before + marked + "/")

    def test_pin_where_one_is(self):
        self.all_at_fault(
            "pin A 0 0\npin B ^0 0\n", "pin A 0 0\npin B ^0 0", "pin A 0 0\npin B ^0 0x", "pin A 0 0\npin B ^0 0 0\n",
            "pin A -12 7\npin C 0 0\npin B ^-12 7\n", "pin A 1 12\npin B 1 123^4\n", CRANK + "pin D ^9 0\n",
        )

    def test_no_crank(self):
        self.all_at_fault("pin A 0 0\n^", PINS + "^", PINS + "dyad D A 8 B 7\n^", PINS + "rider R A B 1 1\n^")
        twelve = "".join("pin A%d %d 0\n" % (k, k) for k in range(1, 13))
        self.all_at_fault(twelve + "^", twelve + "^crank C A1 3\n")


class LookedAtFirst(Take):
    def test_the_first_of_two_faults_is_told(self):
        self.all_at_fault(
            CRANK + "^crank A Z 0", CRANK + "dyad ^A Z 0 Z 0", CRANK + "dyad D ^Z 0 Z 0", CRANK + "dyad D C ^0 C 0",
            CRANK + "dyad D C 8 ^C 0", CRANK + "rider ^A A A 1/1 1/1",
            CRANK + "rider R A ^A 1/1 1/1", CRANK + "rider R A B ^1/1 1/1", CRANK + "rider R A B 1 ^1/1x",
            "pin A 0 0\npin ^A 0 0\n", "pin A 0 0\npin B ^0 0\npin A 0 0\n", "pin A 0 0\npin B 0^\n",
        )

    def test_what_is_not_whole_is_not_looked_at(self):
        self.all_at_fault(
            "pin A 0 0\npin A^0", "pin A 0 0\npin B 0 0^0\n", PINS + "crank C A 0^0", PINS + "crank C D^0",
            CRANK + "dyad D C 8 C^0", CRANK + "rider R A C 1/100^0", CRANK + "rider R A C 2/^",
            CRANK + "rider R A C 2/^x", CRANK + "rider R A C 0/^ 1", CRANK + "rider R A C 0/0^1",
        )

    def test_no_crank_is_looked_at_last(self):
        self.all_at_fault(PINS + "^x", PINS + "pin ^A", PINS + "pin C 0^")


class Bounds(Take):
    def test_bytes(self):
        text = "pin A 0 0\n" * 103
        self.assertEqual(told(take(text[:1024])), [[-6, 1, 14]])
        self.assertEqual(told(take(text[:1025])), [[-2]])
        self.assertEqual(told(take("x" * 1024)), [[-6, 1, 0]])
        self.assertEqual(told(take("x" * 1025)), [[-2]])
        self.assertEqual(told(take("x" * 1100)), [[-2]])
        self.assertEqual(told(take(CRANK + " " * 1024)), [[-2]])

    def test_points_of_a_crank_bar(self):
        four = CRANK + "rider R A C 1 1\nrider S C A 2 1\n"
        self.taken(four)
        self.assertEqual(told(take(four + "rider T A C 0 0\n")), [[-7]])

    def test_points_of_a_dyad_bar(self):
        for p in ("C", "B"):
            four = DYAD + "rider R %s D 1 1\nrider S D %s 2 1\n" % (p, p)
            self.taken(four)
            self.assertEqual(told(take(four + "rider T %s D 0 0\n" % p)), [[-7]])
        self.taken(DYAD + "rider R C D 1 1\nrider S C D 2 1\nrider T B D 1 1\nrider U B D 2 1\n")

    def test_points_of_the_ground(self):
        four = CRANK + "pin D 1 1\nrider R A D 1 1\n"
        self.taken(four, four + "rider S A D 1 2\n", four + "pin E 2 2\n", ELEVEN_PINS, GROUND_RIDERS)
        self.taken(CRANK + "".join("rider R%d A B %d 1\n" % (k, k) for k in range(1, 10)))

    def test_crowded_bar_beside_a_crowded_ground(self):
        five = CRANK + "".join("pin E%d %d 9\n" % (k, k) for k in range(1, 4))
        four = five + "rider R A C 1 1\nrider S C A 2 1\n"
        self.taken(five, four)
        self.assertEqual(told(take(four + "rider T A C 0 0\n")), [[-7]])
        dyad = five + "dyad D C 8 B 7\nrider R B D 1 1\nrider S B D 2 1\n"
        self.taken(dyad)
        self.assertEqual(told(take(dyad + "rider T D B 0 0\n")), [[-7]])

    def test_fault_of_the_text_before_points(self):
        five = CRANK + "rider R A C 1 1\nrider S C A 2 1\nrider T A C 0 0\n"
        self.at_fault(five + "^x")
        self.at_fault(five + "pin ^A")


class Refused(Take):
    def test_linkage_from_before_is_there(self):
        for refused in ("", "x", "x" * 1025, PINS, CRANK + "rider R A C 1 1\nrider S A C 1 1\nrider T A C 1 1\n"):
            given = told(take(CRANK), take(refused), PRINT)
            self.assertLess(given[1][0], 0)
            self.assertEqual(given[2], [len(CRANK), len(CRANK)] + bytes_of(CRANK))

    def test_crowded_bar_leaves_the_linkage_from_before(self):
        four = GROUND_RIDERS + "rider G E F 1 1\nrider H E F 2 1\n"
        given = told(take(four), take(four + "rider I E F 1/2 0\n"), PRINT)
        self.assertEqual(given, [[8], [-7], [len(four), len(four)] + bytes_of(four)])

    def test_no_linkage_from_before(self):
        self.assertEqual(told(take("x"), PRINT), [[-6, 1, 0], [-9]])

    def test_taken_anew(self):
        self.assertEqual(told(take(CRANK), take(DYAD), PRINT)[2], [len(DYAD), len(DYAD)] + bytes_of(DYAD))


if __name__ == "__main__":
    unittest.main()
