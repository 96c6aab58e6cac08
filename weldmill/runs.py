"""What each run has, by names or in a machine: registers, a pile and what was told, step by step."""

REGISTERS = 8
MOST_KEPT = 200


class Steps:
    """A run as far as it has come; what a step does is told by does_item of the classes below this one."""

    # A fault is told by its word, a text, in the place of a value.
    def __init__(self, at):
        self.at = at
        # Where the next item is, behind the one at hand.
        self.behind = at
        self.registers = [0] * REGISTERS
        self.pile = []
        self.tells = []
        self.steps = 0
        self.how = "on"

    def goes(self, most):
        """Does at most so many steps."""
        while self.how == "on" and self.steps < most:
            self.how = self.does_item()
            if self.how in ("on", "halt"):
                self.steps += 1

    def goes_to(self, place):
        """Goes on at the place."""
        self.at = place
        return "on"

    def goes_on(self):
        """Goes on at the next item."""
        return self.goes_to(self.behind)

    def gets(self, r, answer):
        """Gives the register a value and goes on to the next item; a fault is handed on."""
        if isinstance(answer, str):
            return answer
        self.registers[r] = answer
        return self.goes_on()

    def enters(self, place):
        """Keeps the place of the next item and goes on at the place."""
        if len(self.pile) == MOST_KEPT:
            return "deep"
        self.pile.append(self.behind)
        return self.goes_to(place)


def bounded(number, greatest):
    """The number; "great" where it is beyond the greatest one, either way."""
    return number if abs(number) <= greatest else "great"


def does_set(run, r, n):
    """Register r gets the number."""
    return run.gets(r, n)


def does_copy(run, r, s):
    """Register r gets what s holds."""
    return run.gets(r, run.registers[s])


def does_back(run):
    """Goes on at the place kept last."""
    return run.goes_to(run.pile.pop()) if run.pile else "empty"


def does_tell(run, r):
    """Tells what r holds."""
    run.tells.append(run.registers[r])
    return run.goes_on()


def does_halt(run):
    """Stays where it is."""
    return "halt"


# What the items do that do the same in each run.
PLAIN_DEEDS = {
    "set": does_set,
    "copy": does_copy,
    "back": does_back,
    "tell": does_tell,
    "halt": does_halt,
}
