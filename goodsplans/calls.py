"""The calls: each takes the workshop and what is handed in, and answers a list of numbers."""

from goodsplans.recipes import read_recipe, recipe_form
from goodsplans.texts import codes_of, names_of, text_of
from goodsplans.workshop import Use

NO_SUCH_TEXT = -1
NO_SUCH_NUMBER = -2
WRONG_UNITS = -3
WRONG_NAMES = -4
TOO_MANY = -5
RECIPES_FULL = -6
NOTHING_TO_TAKE_BACK = -8

MOST_BEGINNING = 10
MOST_NAMES = 6
MOST_RECIPES = 12
MOST_USES = 10


def answer_begin(workshop, codes):
    names = names_of(text_of(codes))
    if names is None:
        return [NO_SUCH_TEXT]
    if len(names) > MOST_BEGINNING:
        return [TOO_MANY]
    workshop.beginning = names
    workshop.uses = []
    return [len(names)]


def answer_recipe(workshop, codes):
    recipe = read_recipe(text_of(codes))
    if recipe is None:
        return [NO_SUCH_TEXT]
    if len(recipe.takes) > MOST_NAMES or len(recipe.gives) > MOST_NAMES:
        return [TOO_MANY]
    if len(workshop.recipes) >= MOST_RECIPES:
        return [RECIPES_FULL]
    workshop.recipes.append(recipe)
    return [len(workshop.recipes) - 1]


def units_fit(stock, takes, units):
    if len(units) != len(takes) or len(set(units)) != len(units):
        return False
    return all([unit in stock for unit in units])


def answer_use(workshop, number, units):
    if not workshop.has_recipe(number):
        return [NO_SUCH_NUMBER]
    if len(workshop.uses) >= MOST_USES:
        return [TOO_MANY]
    recipe = workshop.recipes[number]
    stock = workshop.stock()
    if not units_fit(stock, recipe.takes, units):
        return [WRONG_UNITS]
    if [stock[unit] for unit in units] != recipe.takes:
        return [WRONG_NAMES]
    first = len(workshop.unit_names())
    workshop.uses.append(Use(number, units))
    return [first, len(recipe.gives)]


def answer_back(workshop):
    if len(workshop.uses) == 0:
        return [NOTHING_TO_TAKE_BACK]
    workshop.uses.pop()
    return [len(workshop.uses)]


def answer_stock(workshop):
    stock = workshop.stock()
    answer = [len(stock)]
    for number, name in stock.items():
        answer.extend([number, len(name)] + codes_of(name))
    return answer


def answer_plan(workshop):
    answer = [len(workshop.uses)]
    for use in workshop.uses:
        answer.extend([use.recipe_number, len(use.units)] + use.units)
    return answer


def answer_show(workshop, number):
    if not workshop.has_recipe(number):
        return [NO_SUCH_NUMBER]
    form = recipe_form(workshop.recipes[number])
    return [len(form)] + codes_of(form)


def answer_need(workshop, number):
    if not workshop.has_recipe(number):
        return [NO_SUCH_NUMBER]
    there = list(workshop.stock().values())
    lacking = 0
    for name in workshop.recipes[number].takes:
        if name in there:
            there.remove(name)
        else:
            lacking += 1
    return [lacking]
