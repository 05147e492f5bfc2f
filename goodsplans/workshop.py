"""What one line of calls keeps: the recipes and the plan."""


class Use:
    def __init__(self, recipe_number, units):
        self.recipe_number = recipe_number
        self.units = units


# The stock is not kept but worked out of the beginning and the uses, so that the
# numbers of the units always follow from the plan as it is.
class Workshop:
    def __init__(self):
        self.recipes = []
        self.beginning = []
        self.uses = []

    # The name of each unit that the plan ever had; its place is its number.
    def unit_names(self):
        names = list(self.beginning)
        for use in self.uses:
            names.extend(self.recipes[use.recipe_number].gives)
        return names

    # For each use the numbers of the units that it gave.
    def given_units(self):
        given = []
        first = len(self.beginning)
        for use in self.uses:
            behind = first + len(self.recipes[use.recipe_number].gives)
            given.append(list(range(first, behind)))
            first = behind
        return given

    # The name of each unit that is there, under its number, by rising numbers.
    def stock(self):
        taken = {}
        for use in self.uses:
            for unit in use.units:
                taken[unit] = True
        left = {}
        for number, name in enumerate(self.unit_names()):
            if number not in taken:
                left[number] = name
        return left

    def has_recipe(self, number):
        return 0 <= number < len(self.recipes)
