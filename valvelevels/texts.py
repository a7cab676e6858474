"""Scripts and polynomials as texts."""


def show_script(plan):
    """Return the text of a script: its tanks, then its steps."""
    tanks = ", ".join([show_tank(tank) for tank in plan.tanks])
    return "; ".join([tanks] + [" ".join([show_thing(thing) for thing in step]) for step in plan.steps])


def show_polynomial(one):
    """Return the text of a polynomial: its numbers, or 0."""
    return " ".join([show_integer(number) for number in one]) if one else "0"


def show_tank(tank):
    """Return the text of a tank: its amount, and its width or w."""
    width, amount = tank
    return show_integer(amount) + " in " + ("w" if width is None else show_integer(width))


def show_thing(thing):
    """Return the text of a word, a list of tanks, a part or an integer of a step."""
    if isinstance(thing, str):
        return thing
    if isinstance(thing, list):
        return ",".join([show_integer(number) for number in thing])
    if isinstance(thing, tuple):
        return "/".join([show_integer(number) for number in thing])
    return show_integer(thing)


def show_integer(number):
    """Return the text of an integer of any size."""
    # Python itself writes only some thousands of digits at once.
    left, parts = abs(number), []
    while left >= 10 ** 64:
        left, part = divmod(left, 10 ** 64)
        parts = [str(part).zfill(64)] + parts
    return ("-" if number < 0 else "") + "".join([str(left)] + parts)
