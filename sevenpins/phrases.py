"""Numbers, screws, touches and jigs as texts of a console, and back; what is no such text is read as None."""
from sevenpins.touches import is_jig, is_touch
from sevenpins.triples import is_fraction

# Python turns no number of thousands of figures into a text at once, so they are turned in parts of so many figures.
FIGURES = 64
SCALE = 10 ** 64


def whole_text(number):
    left, parts = abs(number), []
    while left >= SCALE:
        left, part = divmod(left, SCALE)
        parts.append(str(part).zfill(FIGURES))
    parts.append(str(left))
    return ("-" if number < 0 else "") + "".join(parts[::-1])


def fraction_text(fraction):
    return whole_text(fraction[0]) + "/" + whole_text(fraction[1])


def triples_text(triples):
    return " ".join([fraction_text(fraction) for triple in triples for fraction in triple])


def touch_text(touch):
    triples = touch[1] + touch[2:] if touch[0] == "rest" else touch[1:]
    return touch[0] + " " + triples_text(triples)


def jig_text(jig):
    return "; ".join([touch_text(touch) for touch in jig])


def figures_read(figures):
    """The whole number with these figures."""
    ahead = len(figures) % FIGURES
    number = int(figures[:ahead]) if ahead else 0
    for at in range(ahead, len(figures), FIGURES):
        number = number * SCALE + int(figures[at:at + FIGURES])
    return number


def whole_read(text):
    figures = text.removeprefix("-")
    if not figures.isascii() or not figures.isdigit():
        return None
    number = -figures_read(figures) if text.startswith("-") else figures_read(figures)
    # Noughts ahead and a nought below 0 are not written so.
    return number if whole_text(number) == text else None


def fraction_read(text):
    numbers = tuple(whole_read(part) for part in text.split("/"))
    return numbers if is_fraction(numbers) else None


def triples_read(text):
    """The triples of which the text tells the fractions, with one blank between each two."""
    fractions = tuple(fraction_read(part) for part in text.split(" "))
    if None in fractions or len(fractions) % 3 != 0:
        return None
    return tuple(fractions[at:at + 3] for at in range(0, len(fractions), 3))


def screw_read(text):
    triples = triples_read(text)
    return triples if triples is not None and len(triples) == 2 else None


def touch_read(text):
    word, _, parts = text.partition(" ")
    triples = triples_read(parts)
    if triples is None:
        return None
    touch = (word, triples[:-1], triples[-1]) if word == "rest" else (word,) + triples
    return touch if is_touch(touch) else None


def jig_read(text):
    touches = tuple(touch_read(part) for part in text.split("; "))
    return touches if is_jig(touches) else None
