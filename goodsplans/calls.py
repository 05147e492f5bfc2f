"""The calls: each takes the workshop and what is handed in, and answers a list of numbers."""

from goodsplans.nets import conclusions_of, leaf_units, net_form
from goodsplans.orders import are_independent, exchanged_order, told_order
from goodsplans.reaching import bag_of, first_courses
from goodsplans.recipes import read_recipe, recipe_form
from goodsplans.texts import codes_of, names_of, text_of
from goodsplans.weights import are_kept, weight_of
from goodsplans.workshop import Use

NO_SUCH_TEXT = -1
NO_SUCH_NUMBER = -2
WRONG_UNITS = -3
NOT_INDEPENDENT = -3
CANNOT_BE_DONE = -3
WRONG_NAMES = -4
TOO_MANY = -5
RECIPES_FULL = -6
TOO_MUCH_REACHED = -7
NOTHING_TO_TAKE_BACK = -8

MOST_BEGINNING = 10
MOST_NAMES = 6
MOST_RECIPES = 12
MOST_USES = 10
MOST_CONCLUSIONS = 20
MOST_LEAVES = 120
MOST_ASKED_FOR = 10


def answer_begin(workshop, codes):
    names = names_of(text_of(codes))
    if names is None:
        return [NO_SUCH_TEXT]
    if len(names) > MOST_BEGINNING:
        return [TOO_MANY]
    workshop.beginning = names
    workshop.uses = []
    return [len(names)]


def answer_recipe(workshop, codes):
    recipe = read_recipe(text_of(codes))
    if recipe is None:
        return [NO_SUCH_TEXT]
    if len(recipe.takes) > MOST_NAMES or len(recipe.gives) > MOST_NAMES:
        return [TOO_MANY]
    if len(workshop.recipes) >= MOST_RECIPES:
        return [RECIPES_FULL]
    workshop.recipes.append(recipe)
    return [len(workshop.recipes) - 1]


def units_fit(stock, takes, units):
    if len(units) != len(takes) or len(set(units)) != len(units):
        return False
    return all([unit in stock for unit in units])


def answer_use(workshop, number, units):
    if not workshop.has_recipe(number):
        return [NO_SUCH_NUMBER]
    if len(workshop.uses) >= MOST_USES:
        return [TOO_MANY]
    recipe = workshop.recipes[number]
    stock = workshop.stock()
    if not units_fit(stock, recipe.takes, units):
        return [WRONG_UNITS]
    if [stock[unit] for unit in units] != recipe.takes:
        return [WRONG_NAMES]
    first = len(workshop.unit_names())
    workshop.uses.append(Use(number, units))
    return [first, len(recipe.gives)]


def answer_back(workshop):
    if len(workshop.uses) == 0:
        return [NOTHING_TO_TAKE_BACK]
    workshop.uses.pop()
    return [len(workshop.uses)]


def answer_stock(workshop):
    stock = workshop.stock()
    answer = [len(stock)]
    for number, name in stock.items():
        answer.extend([number, len(name)] + codes_of(name))
    return answer


def answer_plan(workshop):
    answer = [len(workshop.uses)]
    for use in workshop.uses:
        answer.extend([use.recipe_number, len(use.units)] + use.units)
    return answer


def answer_show(workshop, number):
    if not workshop.has_recipe(number):
        return [NO_SUCH_NUMBER]
    form = recipe_form(workshop.recipes[number])
    return [len(form)] + codes_of(form)


def answer_exchange(workshop, k):
    if not 0 <= k < len(workshop.uses) - 1:
        return [NO_SUCH_NUMBER]
    if not are_independent(workshop, k):
        return [NOT_INDEPENDENT]
    workshop.uses = exchanged_order(workshop, k).new_uses()
    return [len(workshop.stock())]


def answer_told(workshop):
    order = told_order(workshop)
    workshop.uses = order.new_uses()
    return [sum([1 for place, before in enumerate(order.places) if place != before])]


def answer_net(workshop):
    conclusions = conclusions_of(workshop)
    units = leaf_units(workshop)
    if len(conclusions) > MOST_CONCLUSIONS or len(units) > MOST_LEAVES:
        return [TOO_MANY]
    form = net_form(conclusions, units)
    return [len(form)] + codes_of(form)


def answer_reach(workshop, codes):
    names = names_of(text_of(codes))
    if names is None:
        return [NO_SUCH_TEXT]
    if len(names) > MOST_ASKED_FOR:
        return [TOO_MANY]
    courses = first_courses(workshop.beginning, workshop.recipes)
    if courses is None:
        return [TOO_MUCH_REACHED]
    course = courses.get(bag_of(names))
    if course is None:
        return [0, 0]
    return [1, len(course)] + course


# None stands for a stock that has not all of the names.
def least_units(stock, names):
    units = []
    for name in names:
        fitting = [unit for unit in stock if stock[unit] == name and unit not in units]
        if len(fitting) == 0:
            return None
        units.append(min(fitting))
    return units


def answer_follow(workshop, course):
    if not all([workshop.has_recipe(number) for number in course]):
        return [NO_SUCH_NUMBER]
    if len(workshop.uses) + len(course) > MOST_USES:
        return [TOO_MANY]
    before = list(workshop.uses)
    for number in course:
        units = least_units(workshop.stock(), workshop.recipes[number].takes)
        if units is None:
            workshop.uses = before
            return [CANNOT_BE_DONE]
        workshop.uses.append(Use(number, units))
    return [len(workshop.uses)]


def answer_weigh(workshop, codes, numbers):
    names = names_of(text_of(codes))
    if names is None or len(set(names)) != len(names):
        return [NO_SUCH_TEXT]
    if len(numbers) != len(names):
        return [NO_SUCH_NUMBER]
    weights = dict(zip(names, numbers))
    kept = 1 if are_kept(weights, workshop.recipes) else 0
    return [kept, weight_of(list(workshop.stock().values()), weights)]


def answer_need(workshop, number):
    if not workshop.has_recipe(number):
        return [NO_SUCH_NUMBER]
    there = list(workshop.stock().values())
    lacking = 0
    for name in workshop.recipes[number].takes:
        if name in there:
            there.remove(name)
        else:
            lacking += 1
    return [lacking]
