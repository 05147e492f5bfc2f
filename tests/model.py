"""The document's words told a second time, for the tests: units are things of their own
here, and their numbers are looked up in the plan whenever one is asked for."""

from collections import Counter


class Unit:
    def __init__(self, name):
        self.name = name


class Step:
    """A use: its recipe's number, the units that it takes and those that it gives."""

    def __init__(self, number, takes, gives):
        self.number = number
        self.takes = takes
        self.gives = gives


def refuse(*cases):
    """The first refusal that applies, as an answer; None if none does. Cases are (number, whether it applies)."""
    for number, applies in cases:
        if applies:
            return [number]
    return None


class Model:
    """Holds names as lists, and answers each call that is told by its name and its arguments."""

    def __init__(self):
        self.recipes = []
        self.start = []
        self.steps = []

    def units(self):
        found = list(self.start)
        for step in self.steps:
            found += step.gives
        return found

    def numbers(self, units):
        every = self.units()
        return [next(k for k, unit in enumerate(every) if unit is wanted) for wanted in units]

    def left(self):
        gone = {id(unit) for step in self.steps for unit in step.takes}
        return [unit for unit in self.units() if id(unit) not in gone]

    def known(self, number):
        return number in range(len(self.recipes))

    def do(self, number, units):
        self.steps.append(Step(number, units, [Unit(name) for name in self.recipes[number][1]]))

    def begin(self, names):
        refusal = refuse((-5, len(names) > 10))
        if refusal is None:
            self.start = [Unit(name) for name in names]
            self.steps = []
        return refusal or [len(names)]

    def recipe(self, takes, gives):
        refusal = refuse((-5, len(takes) > 6 or len(gives) > 6), (-6, len(self.recipes) == 12))
        if refusal is None:
            self.recipes.append((takes, gives))
        return refusal or [len(self.recipes) - 1]

    def use(self, number, wanted):
        refusal = refuse((-2, not self.known(number)), (-5, len(self.steps) == 10))
        if refusal is not None:
            return refusal
        takes, gives = self.recipes[number]
        there = dict(zip(self.numbers(self.left()), self.left()))
        if len(wanted) != len(takes) or len(set(wanted)) < len(wanted) or not set(wanted) <= set(there):
            return [-3]
        if any(there[k].name != name for k, name in zip(wanted, takes)):
            return [-4]
        self.do(number, [there[k] for k in wanted])
        return [len(self.units()) - len(gives), len(gives)]

    def back(self):
        if not self.steps:
            return [-8]
        self.steps.pop()
        return [len(self.steps)]

    def stock(self):
        answer = [len(self.left())]
        for number, unit in zip(self.numbers(self.left()), self.left()):
            answer += [number, len(unit.name)] + list(unit.name.encode())
        return answer

    def plan(self):
        answer = [len(self.steps)]
        for step in self.steps:
            answer += [step.number, len(step.takes)] + self.numbers(step.takes)
        return answer

    def show(self, number):
        if not self.known(number):
            return [-2]
        takes, gives = self.recipes[number]
        form = "*".join(takes) + " -o " + "*".join(gives)
        return [len(form)] + list(form.encode())

    def depends(self, later, earlier):
        return any(unit is given for unit in later.takes for given in earlier.gives)

    def exchange(self, k):
        if k < 0 or k + 1 >= len(self.steps):
            return [-2]
        if self.depends(self.steps[k + 1], self.steps[k]):
            return [-3]
        self.steps[k], self.steps[k + 1] = self.steps[k + 1], self.steps[k]
        return [len(self.left())]

    def told(self):
        before = self.steps
        self.steps = []
        while len(self.steps) < len(before):
            waiting = [step for step in before if not any(step is done for done in self.steps)]
            ready = [step for step in waiting if not any(self.depends(step, other) for other in waiting)]
            self.steps = self.steps + [min(ready, key=lambda step: self.numbers(step.takes))]
        return [sum(old is not new for old, new in zip(before, self.steps))]

    def net(self):
        conclusions = [("~" + unit.name, [unit]) for unit in self.start]
        for step in self.steps:
            takes, gives = self.recipes[step.number]
            first = "*".join(takes) if len(takes) == 1 else "(" + "*".join(takes) + ")"
            second = "|".join("~" + name for name in gives)
            second = second if len(gives) == 1 else "(" + second + ")"
            conclusions.append((first + "*" + second, step.takes + step.gives))
        if self.left():
            conclusions.append(("*".join(unit.name for unit in self.left()), self.left()))
        leaves = [id(unit) for form, units in conclusions for unit in units]
        if len(conclusions) > 20 or len(leaves) > 120:
            return [-5]
        pairs = sorted((leaves.index(unit), len(leaves) - 1 - leaves[::-1].index(unit)) for unit in set(leaves))
        form = ", ".join(form for form, units in conclusions) + " ;  ; " + " ".join("%d-%d" % pair for pair in pairs)
        return [len(form)] + list(form.encode())

    def done(self, bag, number):
        takes, gives = self.recipes[number]
        left = Counter(dict(bag))
        left.subtract(takes)
        if min(left.values()) < 0:
            return None
        return frozenset((+(left + Counter(gives))).items())

    def reach(self, names):
        if len(names) > 10:
            return [-5]
        # For each length the least course to each bag, found again or not.
        levels = [{frozenset(Counter(unit.name for unit in self.start).items()): ()}]
        found = set(levels[0])
        for length in range(6):
            levels.append({})
            for bag, course in levels[-2].items():
                for number in range(len(self.recipes)):
                    behind = self.done(bag, number)
                    if behind is not None:
                        other = course + (number,)
                        levels[-1][behind] = min(other, levels[-1].get(behind, other))
            found |= set(levels[-1])
            if len(found) > 300 or any(sum(times for name, times in bag) > 20 for bag in found):
                return [-7]
        wanted = frozenset(Counter(names).items())
        for level in levels:
            if wanted in level:
                return [1, len(level[wanted])] + list(level[wanted])
        return [0, 0]

    def follow(self, course):
        refusal = refuse((-2, not all(self.known(number) for number in course)),
                         (-5, len(self.steps) + len(course) > 10))
        if refusal is not None:
            return refusal
        before = list(self.steps)
        for number in course:
            there, units = self.left(), []
            for name in self.recipes[number][0]:
                units += [unit for unit in there if unit.name == name and unit not in units][:1]
            if len(units) < len(self.recipes[number][0]):
                self.steps = before
                return [-3]
            self.do(number, units)
        return [len(self.steps)]

    def weigh(self, names, weights):
        refusal = refuse((-1, len(set(names)) < len(names)), (-2, len(names) != len(weights)))
        if refusal is not None:
            return refusal
        weight = dict(zip(names, weights))
        sides = [[sum(weight.get(name, 0) for name in side) for side in recipe] for recipe in self.recipes]
        return [int(all(taken == given for taken, given in sides)),
                sum(weight.get(unit.name, 0) for unit in self.left())]

    def need(self, number):
        if not self.known(number):
            return [-2]
        lacking = Counter(self.recipes[number][0]) - Counter(unit.name for unit in self.left())
        return [sum(lacking.values())]
