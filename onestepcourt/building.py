"""Building: from checked trees to images."""

from onestepcourt.coding import FIXED, Code
from onestepcourt.errors import BadFit
from onestepcourt.machine import MOST_IMAGE


def build(checked):
    """Returns the pair of the image and the pace of a checked tree, or raises BadFit."""
    _, sizes, functions, main = checked
    codes = []
    for part, (params, slots, body) in enumerate(functions):
        code = Code(part, sizes)
        code.add_function(body)
        codes.append(code)
    code = Code(len(functions), sizes)
    code.add_main(main[2])
    codes.append(code)
    image = image_of(areas_of(codes, functions + (main,), sizes))
    return (image, max([code.pace() for code in codes]))


def areas_of(codes, parts, sizes):
    """Returns the list of the areas of an image, in order, as pairs of an area and the list of its words.

    The words are pairs as those of instructions.
    """
    last = len(codes) - 1
    areas = [(("code", last), codes[last].instructions())]
    for part in range(last):
        areas.append((("return", part), zeros(1)))
        areas.append((("code", part), codes[part].instructions()))
    for number in numbers_of(codes):
        areas.append((("number", number), [(number, FIXED)]))
    for part, code in enumerate(codes):
        areas.append((("slots", part), zeros(parts[part][1])))
        areas.append((("temporaries", part), zeros(code.temporaries())))
    for table, size in enumerate(sizes):
        areas.append((("table", table), zeros(size)))
    return areas


def zeros(many):
    """Returns a list of so many words 0."""
    return [(0, FIXED)] * many


def numbers_of(codes):
    """Returns the numbers that need a word, in ascending order."""
    numbers = {}
    for code in codes:
        for word, area in code.instructions():
            if area[0] == "number":
                numbers[area[1]] = True
    return sorted(numbers)


def image_of(areas):
    """Returns the words of areas that stand one behind the other, or raises BadFit."""
    starts = {FIXED: 0}
    words = []
    for area, content in areas:
        starts[area] = len(words)
        words.extend(content)
    if len(words) > MOST_IMAGE:
        raise BadFit()
    return tuple([word + starts[area] for word, area in words])
