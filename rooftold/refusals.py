"""The errors that stand for refusals, one for each, and the numbers that are answered for them."""


# A text is no house's.
class NoHouse(Exception):
    pass


# A number is out of its bounds.
class OutOfBounds(Exception):
    pass


# A half-cell isn't in the house.
class Outside(Exception):
    pass


# A house has no face of that number.
class NoFace(Exception):
    pass


# There's no size to choose from.
class NoSize(Exception):
    pass


# What a call answers: what tell gives back, or the refusal that it comes to first, as its number alone.
def answer_or_refusal(tell):
    try:
        return tell()
    except NoHouse:
        return [-1]
    except OutOfBounds:
        return [-3]
    except Outside:
        return [-5]
    except NoFace:
        return [-6]
    except NoSize:
        return [-7]
