"""The talk between a teller and a judge."""

from shownrun.draws import EARLY, MIXING, coin_names
from shownrun.errors import BadPrime, BadShape, NotWaiting, UnknownName
from shownrun.folds import fold_at
from shownrun.mixed import Mixed
from shownrun.places import Places
from shownrun.primes import fits, is_number, power
from shownrun.shapes import FIRST, LATER, are_counts, are_words, is_whole, is_word, list_length


def _copied(value, p):
    """A value of a right shape as worths, with tuples in the place of lists."""
    if is_whole(value):
        return value % p
    return tuple([_copied(item, p) for item in value])


class Talk:
    """A talk about a program: what was laid and heard so far, and the verdict."""

    MOST = 60

    def __init__(self, program, *, p, rows, looks):
        self._places = Places(p, rows)
        if not is_number(looks, 0, Talk.MOST):
            raise BadShape("looks", looks)
        self.program = program
        self.p = p
        self.rows = rows
        self.looks = looks
        self._laid = []
        self._heard = []
        self._looked = []
        self._failed = False
        self._verdict = None
        self._mixed = None

    def _due(self, step):
        """How many coins are heard ahead of what is laid at a step."""
        if step < 2:
            return EARLY * step
        return min(MIXING - 1 + step, MIXING + 1 + self._places.layers)

    def _next_laid(self):
        """What is laid next, or look if all is laid."""
        step = len(self._laid)
        number = self._places.layers + 2
        if step < 2:
            return "tables" if step == 0 else "later"
        if step < number:
            return "layer"
        return "number" if step == number else "look"

    @property
    def waits(self):
        if self._verdict is not None:
            return "done"
        return "coin" if len(self._heard) < self._due(len(self._laid)) else self._next_laid()

    @property
    def waits_for(self):
        return coin_names(self.rows)[len(self._heard)] if self.waits == "coin" else None

    @property
    def heard(self):
        return list(self._heard)

    @property
    def looked(self):
        return list(self._looked)

    @property
    def verdict(self):
        return self._verdict

    @property
    def layered(self):
        """Whether a number of the right shape was laid."""
        return self._next_laid() == "look"

    def _wrong_shape(self, wanted, value):
        """The verdict for a value in a wrong shape, None for one in the right shape."""
        size = self._places.size
        if wanted == "number":
            right = is_whole(value)
        elif wanted == "layer":
            right = is_word(value, size >> (len(self._laid) - 1))
        elif wanted == "later":
            right = are_words(value, LATER, size)
        else:
            right = list_length(value) == 2 and are_words(value[0], FIRST, size)
            if right and not are_counts(value[1], len(self.program), self.rows):
                return "counts"
        return None if right else wanted

    def _finish(self):
        """Sets the verdict behind the number and the last look."""
        if self.layered and len(self._looked) == self.looks:
            self._verdict = "look" if self._failed else "passed"

    def lay(self, value):
        """Lays any value; tells whether its shape is right."""
        wanted = self.waits
        if wanted in ("coin", "look", "done"):
            raise NotWaiting("lay")
        wrong = self._wrong_shape(wanted, value)
        if wrong is not None:
            self._verdict = wrong
            return False
        self._laid.append(_copied(value, self.p))
        self._finish()
        return True

    def coin(self, number):
        """Hears a coin."""
        if self.waits != "coin":
            raise NotWaiting("coin")
        self._heard.append(number % self.p)

    def look(self, number):
        """Hears a look; tells whether it passes."""
        if self.waits != "look":
            raise NotWaiting("look")
        passed = self.passes(number)
        self._looked.append(number % self._places.size)
        self._failed = self._failed or not passed
        self._finish()
        return passed

    def passes(self, number):
        """Whether a look there would pass."""
        if not self.layered:
            raise NotWaiting("passes")
        layers = range(self._places.layers + 1)
        return all([self._fold_agrees(layer, number) for layer in layers])

    def _fold_agrees(self, layer, number):
        """Whether the fold of a layer has at a look what the next layer has there."""
        half = self._places.size >> (layer + 1)
        at = number % half
        place = power(self._places.place(at), 1 << layer, self.p)
        folded = fold_at(self._worth(layer, at), self._worth(layer, at + half), place,
                         self._heard[MIXING + layer], self.p)
        return folded == self._worth(layer + 1, at)

    def _worth(self, layer, at):
        """What the word of a layer has at a place."""
        if layer == 0:
            return self.mixed().worth_at(at)
        laid = self._laid[layer + 1]
        # The number that is laid last stands at all places of its layer.
        return laid if layer > self._places.layers else laid[at]

    def laid(self, step):
        """What was laid at a step."""
        if not is_number(step, 0, len(self._laid) - 1):
            raise UnknownName(step)
        return self._laid[step]

    def done_deeds(self):
        """The list of the deeds so far, in order, without one of a wrong shape."""
        made, told = [], 0
        for step, value in enumerate(self._laid):
            due = self._due(step)
            made.extend([("coin", coin) for coin in self._heard[told:due]])
            made.append(("lay", value))
            told = due
        made.extend([("coin", coin) for coin in self._heard[told:]])
        return made + [("look", place) for place in self._looked]

    def _do_deed(self, word, value):
        if word == "lay":
            return self.lay(value)
        return self.coin(value) if word == "coin" else self.look(value)

    def do(self, *deeds):
        """Does all deeds, or none if one raises an error; tells what they return."""
        trial = self.twin()
        told = []
        for word, value in deeds:
            told.append(trial._do_deed(word, value))
        self._take_state(trial)
        return told

    def peek(self, *deeds):
        """The verdict that the talk would have behind these deeds."""
        trial = self.twin()
        for word, value in deeds:
            trial._do_deed(word, value)
        return trial.verdict

    def mixed(self):
        """The Mixed of what was laid and heard."""
        if len(self._heard) < MIXING:
            raise NotWaiting("mixed")
        # It never changes behind r36, and making it anew for each look would read all words again.
        if self._mixed is None:
            words, counts = self._laid[0]
            self._mixed = Mixed(self.program, counts, words + self._laid[1], self._heard[:MIXING],
                                p=self.p, rows=self.rows)
        return self._mixed

    def twin(self):
        """An independent talk in the same state."""
        made = Talk(self.program, p=self.p, rows=self.rows, looks=self.looks)
        made._take_state(self)
        return made

    def _take_state(self, other):
        self._laid = list(other._laid)
        self._heard = list(other._heard)
        self._looked = list(other._looked)
        self._failed = other._failed
        self._verdict = other._verdict
        self._mixed = other._mixed

    def __repr__(self):
        return f"Talk({len(self._heard)} coins, {self._verdict or self.waits})"


def held(program, teller, coins, looks, *, p, rows):
    """The Talk behind holding it with a teller, coins and looks."""
    if not fits(p, rows):
        raise BadPrime(p, rows)
    if list_length(coins) != len(coin_names(rows)):
        raise BadShape("coins", list_length(coins))
    # Too many looks, and looks that are no list, are refused here.
    talk = Talk(program, p=p, rows=rows, looks=list_length(looks))
    # The teller may reach the lists that were passed, and must not change what is heard.
    all_coins, all_looks = list(coins), list(looks)
    step = 0
    while talk.waits != "done":
        if talk.waits == "coin":
            talk.coin(all_coins[len(talk.heard)])
        elif talk.waits == "look":
            talk.look(all_looks[len(talk.looked)])
        else:
            talk.lay(teller(step, talk.heard))
            step += 1
    return talk
