"""Points 97 to 99: desks."""

import unittest

from waitworks.days import Day
from waitworks.desk import Desk
from waitworks.errors import InvalidCommand, InvalidHouse, InvalidModule, InvalidText, NeverGoes, NoPlace, Refused
from waitworks.houses import House
from waitworks.works import Works

from models import ANY_VALUES, HOUSE, SHOP, STREET, error_of

SHOP_TEXT = str(SHOP).replace("\n", " ; ")
STREET_TEXT = str(STREET).replace("\n", " ; ")


def shop_desk(*commands):
    desk = Desk()
    desk.say("put " + SHOP_TEXT)
    for command in commands:
        desk.say(command)
    return desk


class DeskTest(unittest.TestCase):
    def test_works(self):
        desk = Desk()
        works = desk.works
        self.assertIsInstance(works, Works)
        self.assertEqual((works.house, desk.day, desk.say("text"), desk.say("undo")), (House([]), None, "-", "nothing"))
        self.assertEqual(desk.say(command="put " + SHOP_TEXT), "shop")
        self.assertEqual((desk.say("put " + SHOP_TEXT), desk.say("put " + STREET_TEXT)), ("-", "two"))
        self.assertEqual(desk.say("text"), SHOP_TEXT + " ; " + STREET_TEXT)
        self.assertEqual(works.house, HOUSE)
        self.assertEqual((desk.say("link shop cut done 0 5"), desk.say("link shop cut done 0 6"), desk.say("cut shop cut done 0 6"), desk.say("cut shop cut done 0 5")), ("-", "shop two", "shop two", "-"))
        self.assertEqual((desk.say("link two b.done a.order 2 1"), desk.say("cut two b.done a.order 2 1")), ("two", "two"))
        self.assertEqual(desk.say("face two"), "| 11 + 4, | 11 + 4")
        self.assertEqual((desk.say("rate two out"), desk.say("rate two in"), desk.say("rate two a.cut")), ("4/1", "0/1", "4/1"))
        self.assertEqual((desk.say("drop two"), desk.say("text"), desk.say("undo"), desk.say("text")), ("-", SHOP_TEXT, "undone", SHOP_TEXT + " ; " + STREET_TEXT))
        self.assertIs(desk.works, works)

    def test_faces(self):
        desk = Desk()
        desk.say("put module m ; in i j ; out o p ; link i o 0 3 ; link j o 1 2 ; link j p 2 7")
        self.assertEqual(desk.say("face m"), "| 3 + 0, - | 2 + 0, | 3 + 0 ; - | - + 0, - - | 7 + 0, 0 0 | 7 + 0".replace("- | - + 0", "| - + 0"))
        desk.say("put module none ; in i")
        self.assertEqual((desk.say("face none"), desk.say("text").split(" ; ")[-2:]), ("-", ["module none", "in i"]))
        desk.say("put module two ; out o ; at s ; link s s 2 3 ; link s o 0 1")
        self.assertEqual((desk.say("face two"), desk.say("rate two o")), ("| 1 1 + 3", "3/2"))

    def test_days(self):
        desk = shop_desk()
        self.assertEqual((desk.say("day shop"), desk.day.name, desk.say("sure done"), desk.say("come order 2")), ("1", "shop", "0", "1"))
        self.assertEqual([desk.say(word) for word in ("time done 0", "time done 1", "sure cut", "come order 10", "sure done", "time done 1")], ["7", "open", "1", "2", "2", "15"])
        self.assertIsInstance(desk.day, Day)
        day = desk.day
        # What is taken back is that of the day, as long as there is one.
        self.assertEqual([desk.say("undo") for _ in range(3)], ["undone", "undone", "nothing"])
        self.assertIs(desk.day, day)
        self.assertEqual((day.arrivals, len(desk.works)), (((),), 1))
        self.assertEqual(desk.say("link shop cut done 0 5"), "-")
        self.assertIsNone(desk.day)
        self.assertEqual((desk.say("undo"), desk.say("undo"), desk.say("undo"), desk.say("text")), ("undone", "undone", "nothing", "-"))

    def test_day_of_all(self):
        desk = Desk()
        desk.say("put module m ; in i j k ; out o ; at s ; link s s 1 4 ; link i o 0 9999".replace("9999", "999"))
        self.assertEqual((desk.say("day m"), desk.say("sure s"), desk.say("time s 9999"), desk.say("time s 0")), ("3", "all", "39996", "0"))
        self.assertEqual((desk.say("come j 0"), desk.say("come j 0"), desk.say("sure j"), desk.say("sure o"), desk.say("come i 9999"), desk.say("time o 0")), ("1", "2", "2", "0", "1", "10998"))

    def test_no_day_behind_deeds(self):
        for deed in ("put " + STREET_TEXT, "put " + SHOP_TEXT, "link shop cut done 0 5", "cut shop fold cut 1 1", "drop shop"):
            desk = shop_desk("day shop")
            desk.say(deed)
            self.assertIsNone(desk.day)
            for command in ("come order 1", "sure done", "time done 0"):
                error_of(self, InvalidCommand, desk.say, command)
        desk = shop_desk("day shop", "come order 3")
        day = desk.day
        for deed, kind in (("put module", InvalidText), ("put module x ; at s ; link s s 0 0", NeverGoes), ("put module x ; use c none", InvalidHouse), ("put module x ; at s s", InvalidModule),
                           ("drop x", NoPlace), ("link shop cut x 0 0", InvalidModule), ("link x cut done 0 0", NoPlace), ("link shop fold cut 0 0", NeverGoes), ("cut shop cut done 0 0", Refused),
                           ("cut x cut done 0 0", NoPlace), ("day x", NoPlace), ("rate shop x", NoPlace), ("rate x done", NoPlace), ("face x", NoPlace), ("come x 3", NoPlace), ("come order 2", Refused),
                           ("sure x", NoPlace), ("time x 0", NoPlace)):
            error_of(self, kind, desk.say, deed)
            self.assertIs(desk.day, day)
            self.assertEqual((day.arrivals, len(desk.works), desk.works.house), (((3,),), 1, House([SHOP])))
        for command in ("text", "face shop", "rate shop done", "sure done", "time done 0"):
            desk.say(command)
            self.assertIs(desk.day, day)
        self.assertEqual(desk.say("day shop"), "1")
        self.assertIsNot(desk.day, day)

    def test_a_day_is_of_the_house_as_it_is(self):
        desk = shop_desk("link shop cut done 0 9", "day shop", "come order 0")
        self.assertEqual((desk.say("time done 0"), desk.day.house), ("9", desk.works.house))

    def test_newlines(self):
        # Replaced from left to right, so that each space counts once.
        desk = Desk()
        self.assertEqual(error_of(self, InvalidText, desk.say, "put module x ; ; at s").at, 1)
        self.assertEqual(error_of(self, InvalidText, desk.say, "put ; module x").at, 0)
        self.assertEqual(error_of(self, InvalidText, desk.say, "put module x ;").at, 0)
        self.assertEqual(error_of(self, InvalidText, desk.say, "put module x;at s").at, 0)
        self.assertEqual(error_of(self, InvalidText, desk.say, "put module x ; module y").at, 1)
        self.assertEqual(error_of(self, InvalidText, desk.say, "put module x ; at s ; link s s 01 0").at, 2)
        self.assertEqual(desk.say("put module x"), "x")

    def test_wrong_commands(self):
        for desk in (Desk(), shop_desk("day shop")):
            for value in ANY_VALUES:
                error_of(self, InvalidCommand, desk.say, value)
            for command in ("", " ", "puts module x", "put", "put ", "put  module x", "put module x ", " put module x", "put module x ;  at s", "put module x\nat s", "text\n", "text ", "text x", "TEXT",
                            "drop", "drop a b", "drop ", "link shop cut done 0", "link shop cut done 0 1 2", "link shop cut done 0 00", "link shop cut done 01 0", "link shop cut done -1 0",
                            "link shop cut done 0 10000", "link shop cut done 0 x", "link  shop cut done 0 1", "cut shop cut done 0", "cut shop cut done 0 +1", "cut shop cut done 0 1.0", "face", "face a b",
                            "rate shop", "rate shop done x", "day", "day a b", "come order", "come order x", "come order 1 2", "come order 00001", "come order 12345", "sure", "sure a b", "time done", "time done n",
                            "time done 1 1", "undo x", "undo ", "come order \n", "say", "within", "text\ttext"):
                error_of(self, InvalidCommand, desk.say, command)
        desk = Desk()
        for command in ("come order 1", "sure done", "time done 0", "sure x", "come x 1"):
            error_of(self, InvalidCommand, desk.say, command)
        self.assertEqual((len(desk.works), desk.day), (0, None))

    def test_any_words(self):
        desk = shop_desk()
        self.assertEqual(error_of(self, NoPlace, desk.say, "face ;").name, ";")
        self.assertEqual(error_of(self, NoPlace, desk.say, "drop A-b").name, "A-b")
        self.assertEqual(error_of(self, NoPlace, desk.say, "rate shop a.b.c").name, "a.b.c")
        self.assertEqual(error_of(self, InvalidModule, desk.say, "link shop ; ; 0 0").word, "links")
        self.assertEqual(error_of(self, Refused, desk.say, "cut shop ; ; 0 9999").at, 4)

    def test_told(self):
        desk = Desk()
        told = [desk.say(word) for word in ("put " + SHOP_TEXT, "rate shop done", "link shop cut done 0 5", "day shop", "come order 2", "time done 0", "time done 1", "undo", "sure done")]
        self.assertEqual(told, ["shop", "4/1", "-", "1", "1", "7", "open", "undone", "0"])


if __name__ == "__main__":
    unittest.main()
