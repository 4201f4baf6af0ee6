"""Point 3 and the row of errors.py: the errors and their attributes."""

import unittest

from stopanywhere import errors

PLAIN = (
    "BadTree BadWord BadPlace BadNames BadTexts BadName BadUnit BadFaces BadPoint BadPath BadProgram BadArguments "
    "BadMost BadMoment BadChosen BadScope BadKinds BadCode BadSpot BadState BadWalk BadBlock BadStep BadSlots BadRoom "
    "BadPrices NotStraight BadHelpers BadPlaces BadPaper BadWaiting BadHeap BadWords BadAddresses BadDepth "
    "BadRegisters BadOrder OtherRegisters BadBundle BadNumber BadOrders BadLong BadLeap BadLayout BadImage BadAddress"
)
TOLD = {
    "BadText": "line column wanted", "BadCount": "count", "BadUnits": "at", "NoUnit": "name", "UsesRing": "ring",
    "NoFunction": "name", "Faulty": "fault unit", "KindClash": "clash unit", "TwoNames": "name", "NotNow": "word",
    "BadFunctions": "name", "Unknown": "name", "BadCodes": "at", "Refused": "why", "BadRows": "at", "BadSpans": "at",
    "BadPairs": "at", "BadChanges": "at", "NotTold": "name", "BadObject": "at", "BadObjects": "name",
    "TwoUnits": "name", "Missing": "unit", "OtherFace": "unit", "BadBits": "at", "BadInstruction": "at",
}


class Errors(unittest.TestCase):
    def test_all_stand_directly_below_the_first(self):
        self.assertEqual(errors.StopError.__bases__, (ValueError,))
        for name in PLAIN.split() + list(TOLD):
            self.assertEqual(getattr(errors, name).__bases__, (errors.StopError,), name)

    def test_no_others(self):
        found = {name for name, thing in vars(errors).items() if isinstance(thing, type)}
        self.assertEqual(found, set(PLAIN.split()) | set(TOLD) | {"StopError"})

    def test_those_without_attributes_take_a_message(self):
        for name in PLAIN.split():
            self.assertEqual(str(getattr(errors, name)("told so")), "told so")

    def test_attributes(self):
        for name, words in TOLD.items():
            attributes = words.split()
            for worths in ([None, 1, ()], [[1], {"a": 1}, "b"], [True, ("x", 2), 0]):
                given = worths[:len(attributes)]
                by_position = getattr(errors, name)(*given)
                by_name = getattr(errors, name)(**dict(zip(attributes, given)))
                for found in (by_position, by_name):
                    self.assertEqual([getattr(found, word) for word in attributes], given)
                    for word, worth in zip(attributes, given):
                        self.assertIs(getattr(found, word), worth)


if __name__ == "__main__":
    unittest.main()
